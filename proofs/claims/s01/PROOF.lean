import PyProof.Rows.All
import Wide.All
import OpenK.AllK
import Wide.FinOn
import PyProof.EqAt
import PyProof.EqKinds
import PyProof.TupleCall
import KE.OsGo
import HandS.ForSpec
import HandS.ForMost
import HandS.CallLocal
import KE.KMinKey
import HandS.Nested
import Open.SpecLaws
import HandS.EndTab
import HandS.Walk
import HandS.Flt
import KE.KNest
import PySem.Challenge.RW_agegrades_s01_answers
set_option Elab.async false
set_option linter.all false
set_option maxRecDepth 100000
set_option maxHeartbeats 2000000
namespace AG
open Km499 Km499Neutral
theorem ite_some {c : Prop} [Decidable c] {a n k : Nat} {r : Option (Nat × Nat)} (h : (if c then some (a, 0) else r) = some (n, k)) : k = 0 ∨ r = some (n, k) := by
  by_cases hc : c
  · rw [if_pos hc] at h
    exact .inl (Prod.mk.inj (Option.some.inj h)).2.symm
  · rw [if_neg hc] at h
    exact .inr h
theorem shape_snd {p : Int} {n k : Nat} (h : PyKm499.shape p = some (n, k)) : k = 0 := by
  unfold PyKm499.shape at h
  iterate 28 (rcases ite_some h with h | h; · exact h)
  cases h
theorem whole_id (c : List (List Int)) : PyKm499.whole c = c := by
  unfold PyKm499.whole
  split <;> rfl
theorem map_whole (cs : List (List (List Int))) : cs.map PyKm499.whole = cs := by
  have : PyKm499.whole = id := funext whole_id
  rw [this, List.map_id]
theorem calls_cons {f : Nat} {l : List Int} {cs : List (List (List Int))} (h : PyFlat.calls PyKm499.shape f l = some cs) (hne : l ≠ []) :
    ∃ p r n f' cs', l = p :: r ∧ PyKm499.shape p = some (n, 0) ∧ n ≤ r.length ∧ cs = [p :: r.take n] :: cs' ∧ PyFlat.calls PyKm499.shape f' (r.drop n) = some cs' := by
  cases l with
  | nil => exact absurd rfl hne
  | cons p r =>
    cases f with
    | zero => simp [PyFlat.calls] at h
    | succ f =>
      unfold PyFlat.calls at h
      unfold PyFlat.call at h
      cases hs : PyKm499.shape p with
      | none => simp [hs] at h
      | some nk =>
        obtain ⟨n, k⟩ := nk
        have hk := shape_snd hs
        subst hk
        simp only [hs] at h
        by_cases hl : r.length < n
        · simp [hl] at h
        · simp only [hl, if_false, PyFlat.rows] at h
          cases hc : PyFlat.calls PyKm499.shape f (r.drop n) with
          | none => simp [hc] at h
          | some cs' =>
            simp only [hc] at h
            exact ⟨p, r, n, f, cs', rfl, hs, by omega, (Option.some.inj h).symm, hc⟩
theorem calls_nil {f : Nat} {cs : List (List (List Int))} (h : PyFlat.calls PyKm499.shape f [] = some cs) : cs = [] := by
  unfold PyFlat.calls at h
  exact (Option.some.inj h).symm
/-- what is asked of the list, in the loop's words -/
theorem asked_open {l : List Int} (h : PyKm499.answers_asked l = true) : ∃ cs, PyFlat.calls PyKm499.shape l.length l = some cs ∧ cs.all asked1 = true ∧ may start cs = true ∧
    PyKm499.answers l = PyFlat.told (PyFlat.played step start cs) ∧ (PyKm499.answers l).length ≤ 10000000 := by
  unfold PyKm499.answers_asked at h
  split at h
  · cases h
  · rename_i raw hraw
    rw [map_whole] at h
    simp only [Bool.and_eq_true] at h
    obtain ⟨⟨⟨⟨h1, h2⟩, h3⟩, h4⟩, h5⟩ := h
    unfold asked at h4
    simp only [Bool.and_eq_true] at h4
    refine ⟨raw, hraw, h4.2.2.1, h4.2.2.2, ?_, ?_⟩
    · unfold PyKm499.answers PyKm499.calls
      rw [hraw]
      show PyFlat.told (PyFlat.played step start (raw.map PyKm499.whole)) = _
      rw [map_whole]
    · exact of_decide_eq_true h5
theorem may_cons {s : S} {c : List (List Int)} {cs : List (List (List Int))} (h : may s (c :: cs) = true) : (step s c).2 ≠ [] ∧ may (step s c).1 cs = true := by
  unfold may at h
  simp only [Bool.and_eq_true] at h
  refine ⟨fun e => ?_, h.2⟩
  rw [e] at h
  simp at h
theorem told_cons {s : S} {c : List (List Int)} {cs : List (List (List Int))} : PyFlat.told (PyFlat.played step s (c :: cs)) = ((step s c).2.length : Int) :: (step s c).2 ++ PyFlat.told (PyFlat.played step (step s c).1 cs) := by
  unfold PyFlat.told
  rw [PyFlat.played, List.flatMap_cons]
end AG
namespace AG
open Km499
theorem foldl_add_sum (l : List Nat) : ∀ a, l.foldl (· + ·) a = a + l.sum := by
  induction l with
  | nil => intro a; simp
  | cons x r ih => intro a; simp [ih]; omega
theorem bits_sum (l : List Nat) : bits l = (l.map fun i => 2 ^ i).sum := by
  unfold bits
  rw [foldl_add_sum]
  simp
theorem bits_perm {l k : List Nat} (h : l.Perm k) : bits l = bits k := by
  rw [bits_sum, bits_sum]
  exact (h.map _).sum_nat
theorem bits_append (l k : List Nat) : bits (l ++ k) = bits l + bits k := by
  rw [bits_sum, bits_sum, bits_sum, List.map_append, List.sum_append]
theorem bits_one (i : Nat) : bits [i] = 2 ^ i := by simp [bits]
theorem bits_nil : bits [] = 0 := rfl
/-- the members of a list below n, in order -/
theorem bits_members {ns : List Nat} {n : Nat} (nd : ns.Nodup) (h : ∀ i ∈ ns, i < n) : bits ((List.range n).filter fun i => decide (i ∈ ns)) = bits ns := by
  refine bits_perm ?_
  rw [List.perm_ext_iff_of_nodup (List.nodup_range.filter _) nd]
  intro a
  simp only [List.mem_filter, List.mem_range, decide_eq_true_eq]
  exact ⟨fun x => x.2, fun x => ⟨h a x, x⟩⟩
end AG
namespace AG
open Km499
/-- the chosen one of a list: none later is less, none sooner as little -/
def Chosen (f : Nat → Nat) (l : List Nat) (i x : Nat) : Prop := l[i]? = some x ∧ ∀ m y, l[m]? = some y → f x ≤ f y ∧ (m < i → f x < f y)
theorem Chosen.one {f : Nat → Nat} {l : List Nat} {i j x y : Nat} (a : Chosen f l i x) (b : Chosen f l j y) : x = y := by
  have h1 := a.2 j y b.1
  have h2 := b.2 i x a.1
  rcases Nat.lt_trichotomy i j with h | h | h
  · have := h2.2 h
    omega
  · subst h
    have e := a.1.symm.trans b.1
    exact Option.some.inj e
  · have := h1.2 h
    omega
theorem eldest_snoc (f : Nat → Nat) (l : List Nat) (y : Nat) : eldest f (l ++ [y]) = match eldest f l with
  | none => some y
  | some r => if f y < f r then some y else some r := by
  unfold eldest
  rw [List.foldl_append]
  rfl
theorem eldest_some (f : Nat → Nat) : ∀ (n : Nat) (l : List Nat), l.length = n → 0 < n → ∃ i x, eldest f l = some x ∧ Chosen f l i x := by
  intro n
  induction n with
  | zero => intro l _ h; exact absurd h (Nat.lt_irrefl _)
  | succ n ih =>
    intro l hl _
    obtain ⟨k, y, rfl⟩ : ∃ k y, l = k ++ [y] := by
      have hne : l ≠ [] := by intro e; rw [e] at hl; simp at hl
      exact ⟨l.dropLast, l.getLast hne, (List.dropLast_concat_getLast hne).symm⟩
    have hk : k.length = n := by simpa using hl
    rw [eldest_snoc]
    by_cases h0 : 0 < n
    · obtain ⟨i, x, e, hx, hb⟩ := ih k hk h0
      rw [e]
      dsimp only
      have hi : i < k.length := (List.getElem?_eq_some_iff.mp hx).1
      by_cases c : f y < f x
      · rw [if_pos c]
        refine ⟨k.length, y, rfl, by simp, fun m z hz => ?_⟩
        by_cases hm : m < k.length
        · rw [List.getElem?_append_left hm] at hz
          have h1 := (hb m z hz).1
          exact ⟨by omega, fun _ => by omega⟩
        · have hm2 : m = k.length := by
            have := (List.getElem?_eq_some_iff.mp hz).1
            simp at this
            omega
          subst hm2
          have e2 : z = y := by simpa using hz.symm
          subst e2
          exact ⟨Nat.le_refl _, fun h => absurd h (Nat.lt_irrefl _)⟩
      · rw [if_neg c]
        refine ⟨i, x, rfl, by rw [List.getElem?_append_left hi]; exact hx, fun m z hz => ?_⟩
        by_cases hm : m < k.length
        · rw [List.getElem?_append_left hm] at hz
          exact hb m z hz
        · have hm2 : m = k.length := by
            have := (List.getElem?_eq_some_iff.mp hz).1
            simp at this
            omega
          subst hm2
          have e2 : z = y := by simpa using hz.symm
          subst e2
          exact ⟨by omega, fun h => by omega⟩
    · have hn : k = [] := List.length_eq_zero_iff.mp (by omega)
      subst hn
      refine ⟨0, y, rfl, rfl, fun m z hz => ?_⟩
      have hm : m = 0 := by
        have := (List.getElem?_eq_some_iff.mp hz).1
        simp at this
        omega
      subst hm
      have e2 : z = y := by simpa using hz.symm
      subst e2
      exact ⟨Nat.le_refl _, fun h => absurd h (Nat.lt_irrefl _)⟩
theorem eldest_is {f : Nat → Nat} {l : List Nat} {i x : Nat} (h : Chosen f l i x) : eldest f l = some x := by
  have h0 : 0 < l.length := Nat.lt_of_le_of_lt (Nat.zero_le i) (List.getElem?_eq_some_iff.mp h.1).1
  obtain ⟨j, y, e, hy⟩ := eldest_some f l.length l rfl h0
  rw [e, h.one hy]
end AG
namespace AG
open Km499
/-! ### all who may join, one behind another -/
def stepJ (b : Book) (i : Nat) : Book := if b.may i = true then b.join i else b
def bookJ (b : Book) (k : Nat) : Book := (List.range k).foldl stepJ b
def mayJ (b : Book) (i : Nat) : Bool := (bookJ b i).may i
theorem bookJ_succ (b : Book) (k : Nat) : bookJ b (k + 1) = if mayJ b k = true then (bookJ b k).join k else bookJ b k := by
  unfold bookJ
  rw [List.range_succ, List.foldl_append]
  rfl
theorem join_n (b : Book) (i : Nat) : (b.join i).n = b.n := by
  unfold Book.join Book.set_ Book.n
  simp
theorem bookJ_n (b : Book) : ∀ k, (bookJ b k).n = b.n
  | 0 => rfl
  | k + 1 => by
    rw [bookJ_succ]
    split
    · rw [join_n, bookJ_n b k]
    · exact bookJ_n b k
theorem join_at {b : Book} {i j : Nat} (hj : j < b.n) : (b.join i).at_ j = if j = i then { b.at_ i with set := some (b.newest b.year), joined := b.year } else b.at_ j := by
  have hj' : j < b.men.length := hj
  unfold Book.join Book.set_ Book.at_
  by_cases e : j = i
  · subst e
    rw [if_pos rfl]
    simp [hj']
  · rw [if_neg e]
    simp [Ne.symm e]
/-- a man's set is touched in his own turn alone -/
theorem bookJ_set {b : Book} {i : Nat} (hi : i < b.n) : ∀ k, ((bookJ b k).at_ i).set = if i < k ∧ mayJ b i = true then some ((bookJ b i).newest (bookJ b i).year) else (b.at_ i).set
  | 0 => by simp [bookJ]
  | k + 1 => by
    have ih := bookJ_set hi k
    rw [bookJ_succ]
    have hk : i < (bookJ b k).n := by rw [bookJ_n]; exact hi
    by_cases hm : mayJ b k = true
    · rw [if_pos hm, join_at hk]
      by_cases e : i = k
      · subst e
        rw [if_pos rfl, if_pos ⟨Nat.lt_succ_self _, hm⟩]
      · rw [if_neg e, ih]
        by_cases h : i < k ∧ mayJ b i = true
        · rw [if_pos h, if_pos ⟨Nat.lt_succ_of_lt h.1, h.2⟩]
        · rw [if_neg h, if_neg fun z => h ⟨by omega, z.2⟩]
    · rw [if_neg hm, ih]
      by_cases h : i < k ∧ mayJ b i = true
      · rw [if_pos h, if_pos ⟨Nat.lt_succ_of_lt h.1, h.2⟩]
      · rw [if_neg h, if_neg fun z => h ⟨by
          have := z.1
          by_cases e : i = k
          · subst e; exact absurd z.2 hm
          · omega, z.2⟩]
theorem mayJ_none {b : Book} {i : Nat} (hi : i < b.n) (h : mayJ b i = true) : (b.at_ i).set = none := by
  have e := bookJ_set hi i
  rw [if_neg fun z => Nat.lt_irrefl _ z.1] at e
  unfold mayJ Book.may at h
  simp only [Bool.and_eq_true] at h
  have h2 := h.2.1
  rw [e] at h2
  simpa using h2
theorem joined_is (b : Book) : (b.all.filter fun i => (b.at_ i).set == none && ((bookJ b b.n).at_ i).set != none) = (List.range b.n).filter (mayJ b) := by
  unfold Book.all
  refine List.filter_congr fun i hi => ?_
  have hi' : i < b.n := List.mem_range.mp hi
  rw [bookJ_set hi' b.n]
  by_cases hm : mayJ b i = true
  · rw [if_pos ⟨hi', hm⟩, hm, mayJ_none hi' hm]
    rfl
  · rw [if_neg fun z => hm z.2, Bool.eq_false_iff.mpr hm]
    cases (b.at_ i).set <;> rfl
theorem act_joinAll (b : Book) : act ⟨b, [], []⟩ .joinAll = if (List.range b.n).filter (mayJ b) = [] then (⟨b, [], []⟩, only (-6)) else ((⟨b, [], []⟩ : Desk).become (bookJ b b.n), b.some_ ((List.range b.n).filter (mayJ b))) := by
  rw [← joined_is]
  rfl
end AG
namespace AG
open Km499 Km499Neutral
theorem act_len (d : Desk) (c : Km499.Call) : (act d c).2.out.length ≤ 5 := by
  cases c <;> simp only [act]
  all_goals first
    | (repeat' split) <;> simp [only, Book.some_]
    | simp [only, Book.some_]
theorem step_len (s : S) (c : Km499Neutral.Call) : (step s c).2.length ≤ 6 := by
  unfold step
  split
  · simp
  · rename_i x hx
    split
    · rename_i a
      have h := act_len a x
      show (told (act a x).2).length ≤ 6
      unfold told nums
      simp
      exact h
    · have h := act_len (fresh 1 2 2 0 0) x
      split
      · show (told (act (fresh 1 2 2 0 0) x).2).length ≤ 6
        unfold told nums
        simp
        exact h
      · simp
theorem counts_shape {p : Int} {n : Nat} (h : PyKm499.shape p = some (n, 0)) : ∃ i : Nat, p = (i : Int) ∧ [5, 1, 1, 1, 0, 1, 1, 1, 1, 1, 1, 0, 0, 0, 0, 1, 1, 2, 0, 1, 1, 0, 0, 1, 1, 0, 0, 0][i]? = some n := by
  unfold PyKm499.shape at h
  have go : ∀ (i m : Nat) (r : Option (Nat × Nat)), [5, 1, 1, 1, 0, 1, 1, 1, 1, 1, 1, 0, 0, 0, 0, 1, 1, 2, 0, 1, 1, 0, 0, 1, 1, 0, 0, 0][i]? = some m → (if p = (i : Int) then some (m, 0) else r) = some (n, 0) →
      (∃ i : Nat, p = (i : Int) ∧ [5, 1, 1, 1, 0, 1, 1, 1, 1, 1, 1, 0, 0, 0, 0, 1, 1, 2, 0, 1, 1, 0, 0, 1, 1, 0, 0, 0][i]? = some n) ∨ r = some (n, 0) := by
    intro i m r hi h
    by_cases c : p = (i : Int)
    · rw [if_pos c] at h
      cases h
      exact .inl ⟨i, c, hi⟩
    · rw [if_neg c] at h
      exact .inr h
  rcases go 0 5 _ rfl h with h | h; · exact h
  rcases go 1 1 _ rfl h with h | h; · exact h
  rcases go 2 1 _ rfl h with h | h; · exact h
  rcases go 3 1 _ rfl h with h | h; · exact h
  rcases go 4 0 _ rfl h with h | h; · exact h
  rcases go 5 1 _ rfl h with h | h; · exact h
  rcases go 6 1 _ rfl h with h | h; · exact h
  rcases go 7 1 _ rfl h with h | h; · exact h
  rcases go 8 1 _ rfl h with h | h; · exact h
  rcases go 9 1 _ rfl h with h | h; · exact h
  rcases go 10 1 _ rfl h with h | h; · exact h
  rcases go 11 0 _ rfl h with h | h; · exact h
  rcases go 12 0 _ rfl h with h | h; · exact h
  rcases go 13 0 _ rfl h with h | h; · exact h
  rcases go 14 0 _ rfl h with h | h; · exact h
  rcases go 15 1 _ rfl h with h | h; · exact h
  rcases go 16 1 _ rfl h with h | h; · exact h
  rcases go 17 2 _ rfl h with h | h; · exact h
  rcases go 18 0 _ rfl h with h | h; · exact h
  rcases go 19 1 _ rfl h with h | h; · exact h
  rcases go 20 1 _ rfl h with h | h; · exact h
  rcases go 21 0 _ rfl h with h | h; · exact h
  rcases go 22 0 _ rfl h with h | h; · exact h
  rcases go 23 1 _ rfl h with h | h; · exact h
  rcases go 24 1 _ rfl h with h | h; · exact h
  rcases go 25 0 _ rfl h with h | h; · exact h
  rcases go 26 0 _ rfl h with h | h; · exact h
  rcases go 27 0 _ rfl h with h | h; · exact h
  cases h
end AG
namespace AG
open Km499
/-- the first of c, c + 1, .. c + n that lies between lo and hi -/
theorem find_from {p : Nat → Bool} {c n lo hi : Nat} (h1 : c ≤ lo) (h2 : hi ≤ c + n) (hp : ∀ y, p y = (decide (lo ≤ y) && decide (y ≤ hi))) :
    ((List.range (n + 1)).map fun k => c + k).find? p = if lo ≤ hi then some lo else none := by
  rw [List.find?_map]
  by_cases h : lo ≤ hi
  · rw [if_pos h]
    have e : (List.range (n + 1)).find? (p ∘ fun k => c + k) = some (lo - c) := by
      rw [List.find?_range_eq_some]
      refine ⟨?_, ?_, fun j hj => ?_⟩
      · simp only [Function.comp, hp, Bool.and_eq_true, decide_eq_true_eq]
        omega
      · simp
        omega
      · simp only [Function.comp, hp]
        have : ¬ lo ≤ c + j := by omega
        simp [this]
    rw [e]
    show some (c + (lo - c)) = some lo
    congr 1
    omega
  · rw [if_neg h]
    have e : (List.range (n + 1)).find? (p ∘ fun k => c + k) = none := by
      rw [List.find?_eq_none]
      intro j _
      simp only [Function.comp, hp, Bool.and_eq_true, decide_eq_true_eq]
      omega
    rw [e]
    rfl
/-- who is turned to whom, counted row by row -/
def turnB (b : Book) (p : Nat × Nat) : Bool := match (b.at_ p.1).set, (b.at_ p.2).set with
  | some s, some t => decide ((b.at_ p.1).born < (b.at_ p.2).born) && decide (t < s)
  | _, _ => false
def turnN (b : Book) (k : Nat) : Nat := (((List.range k).flatMap fun i => b.all.map fun j => (i, j)).filter (turnB b)).length
theorem turnN_succ (b : Book) (k : Nat) : turnN b (k + 1) = turnN b k + (b.all.filter fun j => turnB b (k, j)).length := by
  unfold turnN
  rw [List.range_succ, List.flatMap_append, List.filter_append, List.length_append]
  congr 1
  rw [List.flatMap_cons, List.flatMap_nil, List.append_nil, List.filter_map, List.length_map]
  rfl
theorem twisted_is (b : Book) : b.twisted.length = turnN b b.n := rfl
end AG
/-! ### a dict of the top with whole numbers for keys, and the call of what stands in it -/
namespace AG
open PySem PySem.Spec PyProof.Rows L2
/-- each entry's key is a whole number, hashed as such -/
def intKeys (es : List DictEntry) : Bool := es.all fun e => match e.key with
  | .int i _ => e.hash == hashInt i
  | _ => false
/-- the dict at d, as the top has written it -/
structure IDict (K : PySem.W.Frag) (d : Addr) (es : List DictEntry) (n : Nat) : Prop where
  at_ : K.lookup d = some ⟨.type "dict", none, .dict es.toArray n, #[]⟩
  ks : intKeys es = true
  low : (d == sysModules) = false
def IDict.get {K : PySem.W.Frag} {d : Addr} {es : List DictEntry} {n : Nat} (_ : IDict K d es n) (i : Int) : Option Value := findBy Value.isInt es.toArray i
section
variable {X : Cx} {d : Addr} {es : List DictEntry} {n : Nat}
theorem IDict.map {h : Heap} (D : IDict X.K d es n) (hK : X.K.In h) : h.MapOf (intKind X.prog X.w) d D.get := by
  refine ⟨_, es.toArray, n, hK _ _ D.at_, ⟨rfl, rfl, rfl⟩, rfl, fun e he => ?_, fun _ => rfl⟩
  have hm : e ∈ es := by simpa using he
  have q := List.all_eq_true.mp D.ks e hm
  cases hk : e.key with
  | int i t =>
    rw [hk] at q
    exact ⟨i, by first | exact intKind_is X.prog X.w i t, eq_of_beq q⟩
  | _ =>
    rw [hk] at q
    cases q
/-- k in d -/
theorem op_inI (D : IDict X.K d es n) : OpR X (compareOp .In) (fun x y H Q => ∃ i, x = .int i ∧ y = .ref d ∧ Q (.bl (D.get i).isSome) H) := by
  rintro pins s σ H x y v u Q I rx ry ⟨i, rfl, rfl, q⟩
  obtain ⟨t, rfl⟩ := rx
  obtain rfl : u = Value.ref d := ry
  exact wpAny_in_of (intKind_is X.prog X.w i t) D.low (D.map I.kIn) ⟨.bl _, H, I.tok _, rfl, q⟩
/-- d[k] -/
theorem ix_I (D : IDict X.K d es n) : IxR X (fun x y H Q => ∃ i u0 v0, x = .ref d ∧ y = .int i ∧ D.get i = some u0 ∧ RelV v0 u0 ∧ Q v0 H) := by
  rintro value slice pins s σ H x y v u Q I rx ry ⟨i, u0, v0, rfl, rfl, e, r, q⟩ hs
  obtain rfl : v = Value.ref d := rx
  obtain ⟨t, rfl⟩ := ry
  have M := D.map (h := s.heap) I.kIn
  exact tail_any M.typeIs slot_dict_getitem.lookup (wpAny_getItem_of (intKind_is X.prog X.w i t) M e ⟨v0, H, I.tok _, r, q⟩) hs
/-- the call of what an expression gives: the promise goes with the def that it is -/
def tCallE (S : Addr → Sp → Prop) (tf : TE) (t : TA) : TE := fun σ H Q => tf σ H fun v H1 => ∃ f sp, v = .ref f ∧ S f sp ∧ t σ H1 fun vs H2 => sp vs H2 Q (fun _ _ _ => False)
theorem pe_callE {k : Nat} {S : Addr → Sp → Prop} {fe e : Expr} {es : List Expr} {pos : Pos} {tf : TE} {t : TA} (A : ∀ f sp, S f sp → Held X.prog X.w X.K X.mg X.base k f sp) (hr : Room k X.A) (hf : PE X fe tf) (ha : PA X (e :: es) t)
    (hc : eval (.Call fe (e :: es) [] pos) X.env = (do callWith pos (← eval fe X.env) [] (backTo pos (starEach (e :: es) X.env)) (backToKw pos (keywordEach [] X.env))) := by rfl)
    (hst : starEach (e :: es) X.env = (false, eval e X.env) :: starEach es X.env := by rfl) (hpl : (backTo pos (starEach es X.env)).any (·.1) = false := by rfl) : PE X (.Call fe (e :: es) [] pos) (tCallE S tf t) := by
  refine ⟨fun pins s σ H Q I h => ?_⟩
  rw [hc]
  refine wpAny_bind (thn (hf.run pins s σ H _ I h) fun u s1 ⟨v, H1, I1, r1, f, sp, ev, hS, ht⟩ => ?_)
  subst ev
  obtain rfl : u = Value.ref f := r1
  obtain ⟨fd, ps, F, hk, hb⟩ := (A f sp hS).ex
  refine PySem.W.callWith_K (h₀ := X.base) I.ok.mod.kin hk (thn (ha.run pos pins s1 σ _ _ I1 ht) fun us s2 ⟨vs, H2, I2, r, q⟩ => ⟨I2.kIn, ?_⟩) hst hpl
  have q' : sp (vs ++ []) H2 Q (fun _ _ _ => False) := by
    rw [List.append_nil]
    exact q
  exact run_fn F hr hb .nil (fun _ _ _ _ _ _ _ z => z.elim) I2 r q'
end
end AG
/-! ### min(xs, key=f): the first of those with the least key -/
namespace AG
open PySem PySem.Spec PyProof.Rows L2 LamX
section
variable {X : Cx} {pins : List (Addr × Obj)} {σ : L2.St} {H : Hp}
/-- an object of the machine's own at a: nobody's slot, cell or frame -/
structure Hid (X : Cx) (H : Hp) (a : Addr) : Prop where
  no : H a = none
  nl : a ≠ X.env.locals
  ab : X.s_0.heap.objs.size ≤ a
  nc : ∀ x c, X.env.cells.lookup x = some c → c ≠ a
  nf : a ∉ X.fs
theorem Hid.new {s : Shared} {a : Addr} (I : Inv X pins σ H s) (h : s.heap.objs.size ≤ a) : Hid X H a := by
  refine ⟨I.hok.fresh h, fun e => ?_, Nat.le_trans I.sz h, fun x c e z => ?_, I.nofs h⟩
  · have q := I.lt
    rw [← e] at q
    exact absurd q (Nat.not_lt.mpr h)
  · obtain ⟨v, o, ho, _⟩ := I.cell x c e
    have q := Heap.lt_size ho
    rw [z] at q
    exact absurd q (Nat.not_lt.mpr h)
def notCell (o : Obj) : Prop := ∀ v, o.data ≠ .cell v
/-- one more is held fast -/
theorem Inv.hold {s : Shared} {a : Addr} {o : Obj} (I : Inv X pins σ H s) (h : Hid X H a) (e : s.heap.get? a = some o) (d : notCell o) : Inv X ((a, o) :: pins) σ H s :=
  I.pins_of fun p hp => by
    rcases List.mem_cons.mp hp with rfl | hp
    · exact ⟨e, h.no, h.nl, h.nf, d⟩
    · exact I.pin p (List.mem_append_right _ hp)
/-- fewer are held fast -/
theorem Inv.let_ {s : Shared} {pins' : List (Addr × Obj)} (I : Inv X pins σ H s) (h : ∀ p ∈ pins', p ∈ pins) : Inv X pins' σ H s :=
  I.pins_of fun p hp => I.pin p (List.mem_append_right _ (h p hp))
/-- one of them has turned, and is held fast anew -/
theorem Inv.turn {s : Shared} {a : Addr} {o : Obj} {h' : Heap} {tk : Nat} (I : Inv X pins σ H s) (hid : Hid X H a) (np : ∀ p ∈ X.pn ++ pins, p.1 ≠ a) (k : ∀ b u, b ≠ a → s.heap.get? b = some u → h'.get? b = some u) (e : h'.get? a = some o) (d : notCell o) :
    Inv X ((a, o) :: pins) σ H { s with heap := h', toks := tk } :=
  Inv.hold (I.turned (t' := tk) k hid.no hid.nl (.inr hid.ab) hid.nc np) hid e d
/-- what the loop of min knows -/
structure MinAt (X : Cx) (pins : List (Addr × Obj)) (σ : L2.St) (H : Hp) (l it st : Addr) (xs : List V) (kf : Nat → Int) (j i : Nat) (s : Shared) : Prop where
  ex : ∃ (vb : Value) (t : Tok) (c : Nat) (oi : Obj) (x : V), Inv X ((st, seqObj "list" #[vb, .int (kf i) t] c) :: (it, oi) :: pins) σ H s ∧ oi.cls = .type "list_iterator" ∧ oi.data = .fields #[.ref l, .int j 0] ∧ xs[i]? = some x ∧ RelV x vb
  lt : i < j
  le : j ≤ xs.length
  best : ∀ m, m < j → kf i ≤ kf m ∧ (m < i → kf i < kf m)
def KeyOk (X : Cx) (σ : L2.St) (H : Hp) (xs : List V) (kf : Nat → Int) (f : Addr) (fo : Obj) : Prop :=
  ∀ (i : Nat) (x : V) (v : Value) (s : Shared) (pins : List (Addr × Obj)), xs[i]? = some x → RelV x v → (f, fo) ∈ pins → Inv X pins σ H s →
    wpAny (model X.prog X.w) X.A.in1 (call (.ref f) [v]) (fun u s' => ∃ t, u = .int (kf i) t ∧ Inv X pins σ H s') (fun _ _ => False) s
variable {l it st f : Addr} {fo : Obj} {xs : List V} {kf : Nat → Int} {R : Result → Shared → Prop}
theorem min_loop (hd : X.A.handled = none) (hq : SqL X.K H l xs) (hI : Hid X H it) (hS : Hid X H st) (ne : st ≠ it) (nl : l ≠ it) (nI : ∀ p ∈ X.pn ++ pins, p.1 ≠ it) (nS : ∀ p ∈ X.pn ++ pins, p.1 ≠ st)
    (hf : (f, fo) ∈ pins) (key : KeyOk X σ H xs kf f fo)
    (fin : ∀ i x v s, xs[i]? = some x → RelV x v → (∀ m, m < xs.length → kf i ≤ kf m ∧ (m < i → kf i < kf m)) → Inv X pins σ H s → R (.ok (.ret v)) s) :
    ∀ (r j i : Nat) (s : Shared), xs.length - j = r → MinAt X pins σ H l it st xs kf j i s → codeAny (model X.prog X.w) X.A (.builtin "min.loop" ⟨[.ref it, .ref f, .ref st], []⟩) R s := by
  have again : (toString "min" ++ toString ".loop" : String) = "min.loop" := by decide
  intro r
  induction r with
  | zero =>
    rintro j i s hr ⟨⟨vb, t, c, oi, x, I, oc, od, ex, rx⟩, lt, le, best⟩
    have ej : j = xs.length := by omega
    obtain ⟨its, rv, pl, hz⟩ := I.list hq
    have gS := (I.pin _ (List.mem_append_right _ (.head _))).1
    have gI := (I.pin _ (List.mem_append_right _ (.tail _ (.head _)))).1
    have W := Walks.list (prog := X.prog) (w := X.w) (A := X.A.in1) hd it l nl its.toArray
    refine codeAny_builtin PySem.F.entry_min_loop ?_
    rw [Around.under_plainId PySem.F.plain_min_loop _]
    refine wpAny_bind (wpAny_seqItems gS rfl ?_)
    refine wpAny_bind (wpAny_tryCatch (W.done s _ _ ⟨⟨oi, gI, oc, ?_⟩, pl.isList⟩ fun h' tk k => ?_))
    · rw [od, ej]
      have e : its.toArray.size = xs.length := by rw [List.size_toArray]; exact rv.length.symm
      rw [e]
    have I1 := (Inv.let_ (pins' := pins) I (fun p hp => .tail _ (.tail _ hp))).turned (t' := tk) (h' := h') (it := it) (fun b o hb e => k b o (by simpa using hb) e) hI.no hI.nl (.inr hI.ab) hI.nc nI
    have gS1 := k st _ (by simpa using ne) gS
    refine wpAny_bind ?_
    refine wpAny_updateSeq gS1 rfl (wpAny_bind (wpAny_letGo (wpAny_pure ?_)))
    have sb := Heap.SameBut.update h' st (Obj.mapSeq fun _ => (#[] : Array Value))
    exact fin i x vb _ ex rx (fun m hm => best m (by omega)) (I1.turned (t' := tk) (it := st) (fun b o hb e => (sb.2 b hb).trans e) hS.no hS.nl (.inr hS.ab) hS.nc nS)
  | succ r ih =>
    rintro j i s hr ⟨⟨vb, t, c, oi, x, I, oc, od, ex, rx⟩, lt, le, best⟩
    have hj : j < xs.length := by omega
    obtain ⟨its, rv, pl, hz⟩ := I.list hq
    have hsz : its.toArray.size = xs.length := by rw [List.size_toArray]; exact rv.length.symm
    have gS := (I.pin _ (List.mem_append_right _ (.head _))).1
    have gI := (I.pin _ (List.mem_append_right _ (.tail _ (.head _)))).1
    have W := Walks.list (prog := X.prog) (w := X.w) (A := X.A.in1) hd it l nl its.toArray
    refine codeAny_builtin PySem.F.entry_min_loop ?_
    rw [Around.under_plainId PySem.F.plain_min_loop _]
    refine wpAny_bind (wpAny_seqItems gS rfl ?_)
    refine wpAny_bind (wpAny_tryCatch (W.item j s _ _ (by rw [hsz]; exact hj) ⟨⟨oi, gI, oc, od⟩, pl.isList⟩ fun v h' tk hP st' k => ?_))
    obtain ⟨y, ey, ry⟩ : ∃ y, xs[j]? = some y ∧ RelV y v := by
      obtain ⟨u, hu, ru⟩ := rv.get (List.getElem?_eq_getElem hj)
      have e : its[j]? = some v := by simpa using hP
      rw [hu] at e
      cases e
      exact ⟨_, List.getElem?_eq_getElem hj, ru⟩
    obtain ⟨oj, gJ, jc, jd⟩ := st'.1
    -- the iterator has turned
    have I0 : Inv X ((st, seqObj "list" #[vb, .int (kf i) t] c) :: pins) σ H s := Inv.let_ I fun p hp => by
      rcases List.mem_cons.mp hp with rfl | hp
      · exact .head _
      · exact .tail _ (.tail _ hp)
    have I1 : Inv X ((it, oj) :: (st, seqObj "list" #[vb, .int (kf i) t] c) :: pins) σ H { s with heap := h', toks := tk } :=
      Inv.turn I0 hI (fun p hp => by
        rcases List.mem_append.mp hp with hp | hp
        · exact nI p (List.mem_append_left _ hp)
        · rcases List.mem_cons.mp hp with rfl | hp
          · exact ne
          · exact nI p (List.mem_append_right _ hp)) (fun b o hb e => k b o (by simpa using hb) e) gJ (fun z e => by rw [jd] at e; cases e)
    refine wpAny_bind (wpAny_tryCatch (wpAny_holding (wpAny_mono (key j y v _ _ ey ry (.tail _ (.tail _ hf)) I1) (fun u s2 hu => ?_) fun _ _ z => z.elim)))
    obtain ⟨t2, rfl, I2⟩ := hu
    have gS2 := (I2.pin _ (List.mem_append_right _ (.tail _ (.head _)))).1
    refine wpAny_bind (wpAny_tryCatch (wpAny_holding (wpAny_bind (CmpOf.ints_lt (prog := X.prog) (w := X.w) (A := X.A.in1) (P := fun m z => ∃ t, z = .int (kf m) t) kf (fun m z h => h) j i _ _ _ _ _ ⟨t2, rfl⟩ ⟨t, rfl⟩ ?_))))
    refine wpAny_bind (wpAny_holding (wpAny_truthy_bool ?_))
    refine wpAny_bind (wpAny_letGo (wpAny_pure ?_))
    by_cases hb : kf j < kf i
    · rw [if_pos (show (fun i j => decide (kf i < kf j)) j i = true from decide_eq_true hb)]
      have sb := Heap.SameBut.update s2.heap st (Obj.mapSeq fun _ => #[v, .int (kf j) t2])
      have I3 := Inv.turn (tk := s2.toks) (o := seqObj "list" #[v, .int (kf j) t2] _) (Inv.let_ (pins' := (it, oj) :: pins) I2 fun p hp => by
          rcases List.mem_cons.mp hp with rfl | hp
          · exact .head _
          · exact .tail _ (.tail _ hp)) hS (fun p hp => by
          rcases List.mem_append.mp hp with hp | hp
          · exact nS p (List.mem_append_left _ hp)
          · rcases List.mem_cons.mp hp with rfl | hp
            · exact ne.symm
            · exact nS p (List.mem_append_right _ hp)) (fun b o hb e => (sb.2 b hb).trans e) (get?_update_seq gS2 fun _ => #[v, .int (kf j) t2]) (fun z e => by cases e)
      refine wpAny_bind ?_
      refine wpAny_updateSeq gS2 rfl (wpAny_bind (wpAny_letGo ?_))
      rw [again]
      refine wpAny_pure ⟨plainId_quiet PySem.F.plain_min_loop _, ih (j + 1) j _ (by omega) ⟨⟨v, t2, _, oj, y, I3, jc, jd, ey, ry⟩, by omega, by omega, fun m hm => ?_⟩⟩
      by_cases e : m = j
      · subst e
        exact ⟨Int.le_refl _, fun h => absurd h (Nat.lt_irrefl _)⟩
      · have h1 := best m (by omega)
        exact ⟨by omega, fun _ => by omega⟩
    · rw [if_neg (show ¬ (fun i j => decide (kf i < kf j)) j i = true from fun z => hb (of_decide_eq_true z))]
      refine wpAny_bind (wpAny_letGo ?_)
      rw [again]
      refine wpAny_pure ⟨plainId_quiet PySem.F.plain_min_loop _, ih (j + 1) i _ (by omega) ⟨⟨vb, t, c, oj, x, Inv.let_ I2 fun p hp => ?_, jc, jd, ex, rx⟩, by omega, by omega, fun m hm => ?_⟩⟩
      · rcases List.mem_cons.mp hp with rfl | hp
        · exact .tail _ (.head _)
        · rcases List.mem_cons.mp hp with rfl | hp
          · exact .head _
          · exact .tail _ (.tail _ hp)
      · by_cases e : m = j
        · subst e
          exact ⟨by omega, fun h => by omega⟩
        · exact best m (by omega)
/-- the loop's first turn: nothing is kept yet -/
theorem min_first {s : Shared} {c : Nat} {oi : Obj} (hd : X.A.handled = none) (hq : SqL X.K H l xs) (h0 : 0 < xs.length) (hI : Hid X H it) (hS : Hid X H st) (ne : st ≠ it) (nl : l ≠ it) (nI : ∀ p ∈ X.pn ++ pins, p.1 ≠ it) (nS : ∀ p ∈ X.pn ++ pins, p.1 ≠ st)
    (hf : (f, fo) ∈ pins) (key : KeyOk X σ H xs kf f fo)
    (fin : ∀ i x v s, xs[i]? = some x → RelV x v → (∀ m, m < xs.length → kf i ≤ kf m ∧ (m < i → kf i < kf m)) → Inv X pins σ H s → R (.ok (.ret v)) s)
    (I : Inv X pins σ H s) (gS : s.heap.get? st = some (seqObj "list" #[] c)) (gI : s.heap.get? it = some oi) (oc : oi.cls = .type "list_iterator") (od : oi.data = .fields #[.ref l, .int 0 0]) :
    codeAny (model X.prog X.w) X.A (.builtin "min.loop" ⟨[.ref it, .ref f, .ref st], []⟩) R s := by
  have again : (toString "min" ++ toString ".loop" : String) = "min.loop" := by decide
  obtain ⟨its, rv, pl, hz⟩ := I.list hq
  have hsz : its.toArray.size = xs.length := by rw [List.size_toArray]; exact rv.length.symm
  have W := Walks.list (prog := X.prog) (w := X.w) (A := X.A.in1) hd it l nl its.toArray
  refine codeAny_builtin PySem.F.entry_min_loop ?_
  rw [Around.under_plainId PySem.F.plain_min_loop _]
  refine wpAny_bind (wpAny_seqItems gS rfl ?_)
  refine wpAny_bind (wpAny_tryCatch (W.item 0 s _ _ (by rw [hsz]; exact h0) ⟨⟨oi, gI, oc, od⟩, pl.isList⟩ fun v h' tk hP st' k => ?_))
  obtain ⟨y, ey, ry⟩ : ∃ y, xs[0]? = some y ∧ RelV y v := by
    obtain ⟨u, hu, ru⟩ := rv.get (List.getElem?_eq_getElem h0)
    have e : its[0]? = some v := by simpa using hP
    rw [hu] at e
    cases e
    exact ⟨_, List.getElem?_eq_getElem h0, ru⟩
  obtain ⟨oj, gJ, jc, jd⟩ := st'.1
  have I0 : Inv X ((st, seqObj "list" #[] c) :: pins) σ H s := Inv.hold I hS gS fun z e => by cases e
  have I1 : Inv X ((it, oj) :: (st, seqObj "list" #[] c) :: pins) σ H { s with heap := h', toks := tk } :=
    Inv.turn I0 hI (fun p hp => by
      rcases List.mem_append.mp hp with hp | hp
      · exact nI p (List.mem_append_left _ hp)
      · rcases List.mem_cons.mp hp with rfl | hp
        · exact ne
        · exact nI p (List.mem_append_right _ hp)) (fun b o hb e => k b o (by simpa using hb) e) gJ (fun z e => by rw [jd] at e; cases e)
  refine wpAny_bind (wpAny_tryCatch (wpAny_holding (wpAny_mono (key 0 y v _ _ ey ry (.tail _ (.tail _ hf)) I1) (fun u s2 hu => ?_) fun _ _ z => z.elim)))
  obtain ⟨t2, rfl, I2⟩ := hu
  have gS2 := (I2.pin _ (List.mem_append_right _ (.tail _ (.head _)))).1
  have sb := Heap.SameBut.update s2.heap st (Obj.mapSeq fun _ => #[v, .int (kf 0) t2])
  have I3 := Inv.turn (tk := s2.toks) (o := seqObj "list" #[v, .int (kf 0) t2] _) (Inv.let_ (pins' := (it, oj) :: pins) I2 fun p hp => by
      rcases List.mem_cons.mp hp with rfl | hp
      · exact .head _
      · exact .tail _ (.tail _ hp)) hS (fun p hp => by
      rcases List.mem_append.mp hp with hp | hp
      · exact nS p (List.mem_append_left _ hp)
      · rcases List.mem_cons.mp hp with rfl | hp
        · exact ne.symm
        · exact nS p (List.mem_append_right _ hp)) (fun b o hb e => (sb.2 b hb).trans e) (get?_update_seq gS2 fun _ => #[v, .int (kf 0) t2]) (fun z e => by cases e)
  refine wpAny_bind ?_
  refine wpAny_updateSeq gS2 rfl ?_
  rw [again]
  refine wpAny_pure ⟨plainId_quiet PySem.F.plain_min_loop _, min_loop hd hq hI hS ne nl nI nS hf key fin _ 1 0 _ rfl ⟨⟨v, t2, _, oj, y, I3, jc, jd, ey, ry⟩, by omega, by omega, fun m hm => ?_⟩⟩
  have e : m = 0 := by omega
  subst e
  exact ⟨Int.le_refl _, fun h => absurd h (Nat.lt_irrefl _)⟩
/-- min(xs, key=f), by values -/
theorem min_call {s : Shared} {Q : Value → Shared → Prop} {E : Value → Shared → Prop} (hd : X.A.handled = none) (hq : SqL X.K H l xs) (h0 : 0 < xs.length) (hf : (f, fo) ∈ pins) (key : KeyOk X σ H xs kf f fo) (I : Inv X pins σ H s)
    (fin : ∀ i x v s, xs[i]? = some x → RelV x v → (∀ m, m < xs.length → kf i ≤ kf m ∧ (m < i → kf i < kf m)) → Inv X pins σ H s → Q v s) :
    wpAny (model X.prog X.w) X.A (call (.builtin "min") [.ref l] [(Str.ofString "key", .ref f)]) Q E s := by
  have again : (toString "min" ++ toString ".loop" : String) = "min.loop" := by decide
  obtain ⟨its, rv, pl, hz⟩ := I.list hq
  obtain ⟨ol, hol, _⟩ := id pl.isList
  have hll : l < s.heap.objs.size := Heap.lt_size hol
  refine kmk_tree PySem.F.kind_min PySem.F.plain_min PySem.F.entry_min (kmk_min_key _ _) ?_
  show wpAny _ X.A.in1 (Builtin.Builtins.bindParams "min" ["key", "default"] 0 ⟨[], [(Str.ofString "key", .ref f)]⟩ >>= _) _ _ s
  refine wpAny_bind (wpAny_of_eq (show Builtin.Builtins.bindParams "min" ["key", "default"] 0 ⟨[], [(Str.ofString "key", .ref f)]⟩ = pure [some (.ref f), none] from rfl) ?_)
  refine wpAny_bind (wpAny_pure ?_)
  refine wpAny_bind (wpAny_pyIter_list pl.isList ?_)
  refine wpAny_bind (wpAny_newList ?_ (Nat.zero_le _))
  rw [again]
  have sz : (s.heap.push { cls := .type "list_iterator", data := .fields #[.ref l, .int 0 0] }).objs.size = s.heap.objs.size + 1 := size_push' ..
  have hI : Hid X H s.heap.objs.size := Hid.new I (Nat.le_refl _)
  have hS : Hid X H (s.heap.push { cls := .type "list_iterator", data := .fields #[.ref l, .int 0 0] }).objs.size := Hid.new I (by rw [sz]; exact Nat.le_succ _)
  have I2 := L2.Inv.kept (t' := s.toks) (h' := (s.heap.push { cls := .type "list_iterator", data := .fields #[.ref l, .int 0 0] }).push (seqObj "list" #[] 0)) I fun b o e => Heap.get?_push_of_some _ (Heap.get?_push_of_some _ e)
  have old : ∀ p ∈ X.pn ++ pins, p.1 < s.heap.objs.size := fun p hp => Heap.lt_size (I.pin p hp).1
  refine wpAny_pure ⟨plainId_quiet PySem.F.plain_min_loop _, min_first (R := fun r s' => match r with | .ok (.ret v) => Q v s' | .ok _ => False | .error e => E e s') hd hq h0 hI hS (by rw [sz]; exact Nat.succ_ne_self _) (Nat.ne_of_lt hll) (fun p hp => Nat.ne_of_lt (old p hp))
    (fun p hp => by rw [sz]; exact Nat.ne_of_lt (Nat.lt_succ_of_lt (old p hp))) hf key fin I2 (Heap.get?_push_size _ rfl) (Heap.get?_push_of_some _ (Heap.get?_push_size _ rfl)) rfl rfl⟩
end
end AG
/-! ### a lambda with parameters and captured names, called; min(xs, key=lambda ..) -/
namespace AG
open PySem PySem.Spec PyProof.Rows L2 LamX NdefX
section
variable {P : Program} {w : World} {K : PySem.W.Frag} {mg : Str → Option Value} {base : Heap}
/-- the call of a lambda by its body's reading -/
theorem lam_run {N ps fr : List Str} {F : NF} {f : Addr} {pm ctv : Value} {body : Expr} {k : Nat} {A : Around} {outer : List Env} {s : Shared} {H : Hp} {us : List Value} {vs : List V} {ws : List (Option V)} {Q : VK} {E : XK} {tb : TE}
    (S : NScope N ps fr F.scope) (hr : Room (k + 1) A) (e0 : Env0 P w K mg base A outer s H) (ho : s.heap.get? f = some (PySem.W.kla_obj F.name F.qual F.params body F.scope F.cl pm F.c ctv)) (hc : H F.c = some (CodeO F.c F.qual))
    (C : CellsAt F.cl fr ws s.heap H) (hb : bindArgs (PySem.W.kla_fn F.name F.qual F.params body F.scope F.cl pm (.ref F.c) ctv) ⟨us, []⟩ = pure (ps.zip us)) (r : Vals vs us) (hl : vs.length = ps.length)
    (hbody : PE (ncx CX0 P w K mg base N F f A outer s H E) body tb) (ht : tb (startF N vs ws) H Q) :
    codeAny (model P w) A (.call (.ref f) ⟨us, []⟩) (CR CX0 outer P w H s Q E) s := by
  refine PySem.W.kla_callFunE hr.depth ho rfl S.co S.gen rfl (codeO_at e0.hok hc) ?_
  rw [hb]
  have lim : s.heap.NoLimit := e0.mod.nolimit.keeps fun b o e => (e0.bs b o e).1
  refine wpAny_pure (wpAny_newFunctionEnv S.nocell (fun y hy => S.par y.1 (List.of_mem_zip hy).1) (fun h1 hns sb => ⟨lim.fresh _ sb, ?_⟩) S.kind)
  have grow : ∀ b o, s.heap.get? b = some o → h1.get? b = some o := fun b o e => sb.extBut b o (Nat.ne_of_lt (Heap.lt_size e)) (Heap.get?_push_of_some _ e)
  have J := inv_startN (CX := CX0) (f := f) (E := E) (tk := s.toks + (ps.zip us).length) S hr.hd e0 hl r C hns grow
  refine PySem.W.kla_codeExpr (wpAny_mono (hbody.run [] _ _ H Q J ht) (fun v s' q => ?_) fun _ _ q => q)
  obtain ⟨y, H', J', rv, q⟩ := q
  exact ⟨y, H', J'.os, J'.bare, J'.base, J'.hok, rv, q⟩
end
section
variable {X : Cx}
/-- what is asked of min(xs, key=lambda x: body): N the lambda's names, js where its captured ones stand here, kf the keys -/
def tMinLam (T : List (Addr × Str)) (K : PySem.W.Frag) (N : List Str) (js : List Nat) (t : TA) (tb : TE) : TE := fun σ H Q => t σ H fun vs H1 => ∃ (l : Addr) (xs : List V), vs = [.ref l] ∧ SqL K H1 l xs ∧ 0 < xs.length ∧ Tabs T H1 ∧
  ∀ H2, ExtN H1 H2 → Tabs T H2 → ∃ kf : Nat → Int, (∀ (i : Nat) (x : V), xs[i]? = some x → tb (startF N [x] (js.map (slotAt σ))) H2 fun y H3 => H3 = H2 ∧ y = .int (kf i)) ∧
    ∀ (i : Nat) (x : V), xs[i]? = some x → (∀ m, m < xs.length → kf i ≤ kf m ∧ (m < i → kf i < kf m)) → Q x H2
theorem ExtN.seq {K : PySem.W.Frag} {H H' : Hp} {a : Addr} {xs : List V} (e : ExtN H H') (h : SqL K H a xs) : SqL K H' a xs := by
  rcases h with (h | ⟨o, h⟩) | h
  · exact .inl (.inl (e _ _ h fun _ z => by cases z))
  · exact .inl (.inr ⟨o, e _ _ h fun _ z => by cases z⟩)
  · exact .inr h
theorem pe_minLam {T : List (Addr × Str)} {c P : Addr} {k : Nat} {params : Arguments} {body e : Expr} {scope : Scope} {N fr : List Str} {x : Str} {js : List Nat} {ta : TA} {tb : TE} {p lpos kpos pos : Pos}
    (hg : Gl X "min") (hm : X.mg "min" = none) (ha : PA X [e] ta) (TB : TabB X.base X.mg c P) (hcode : X.env.code = .ref c) (hmT : (P, X.env.qual ++ "<lambda>") ∈ T) (hu : ∀ p ∈ T, p.1 = P → p.2 = X.env.qual ++ "<lambda>") (hr : Room (k + 2) X.A)
    (S : NScope N [x] fr scope) (hfree : ∀ y ∈ scope.names, y.2 = .free → X.env.scope.names.lookup y.1 = some .cell ∨ X.env.scope.names.lookup y.1 = some .free) (hfr : ∀ y ∈ fr, (y, NameKind.free) ∈ scope.names) (hjs : js.map (fun j => X.N[j]?) = fr.map some)
    (hdef : defaultsOf params X.env = ([], [])) (hbind : ∀ (q : Str) (cl : List (Str × Addr)) (pm cv ctv u : Value), bindArgs (PySem.W.kla_fn "<lambda>" q params body scope cl pm cv ctv) ⟨[u], []⟩ = pure [(x, u)])
    (hbody : ∀ (F : NF) (f : Addr) (A : Around) (outer : List Env) (s : Shared) (H : Hp) (E : XK), F.scope = scope → Room k (A.deeper (envF F f s.heap.objs.size)) → PE (ncx CX0 X.prog X.w X.K X.mg X.base N F f A outer s H E) body tb)
    (he : backTo pos (starEach [e] X.env) = (false, eval e X.env) :: backTo pos (starEach [] X.env) := by rfl) (hpl : (backTo pos (starEach [e] X.env)).any (·.1) = false := by rfl) :
    PE X (.Call (.Name "min" p) [e] [⟨some "key", .Lambda params body scope lpos, kpos⟩] pos) (tMinLam T X.K N js ta tb) := by
  refine ⟨fun pins s σ H Q I h => ?_⟩
  refine wpAny_Call_Name_kw (ld_blt I hg hm boot_min ?_)
  refine PyProof.Rows.callWith_kw (thn (ha.run pos pins s σ H _ I h) fun us s1 ⟨vs, H1, I1, r1, q1⟩ => ?_) he hpl rfl rfl
  obtain ⟨l, xs, rfl, hq, h0, hT, q1⟩ := q1
  obtain ⟨u, rfl, ru⟩ := vals1 r1
  obtain rfl : u = Value.ref l := ru
  show wpAny _ _ (evalAll ((do let v ← eval (.Lambda params body scope lpos) X.env; standAt pos; pure v) :: [])) _ _ s1
  have has : ∀ y ∈ scope.names, y.2 = .free → ∃ c, X.env.cells.lookup y.1 = some c := fun y hy z => (hfree y hy z).elim (fun z => I1.ok.has _ (.inl z)) fun z => I1.ok.has _ (.inr z)
  refine wpAny_evalAll_cons (wpAny_bind (lam_make2 I1 TB hcode hmT hu hT hdef has fun f c' pm ctv H2 s2 I2 eN T2 hf hfn hfs hco => wpAny_bind (wpAny_standAt (wpAny_pure (wpAny_evalAll_nil ?_)))))
  obtain ⟨kf, hk, hQ⟩ := q1 H2 eN T2
  have I3 : Inv X ((f, PySem.W.kla_obj "<lambda>" (X.env.qual ++ "<lambda>") params body scope (cloFrom X.env.cells scope.names []) pm c' ctv) :: pins) σ H2 s2 := I2.pins_of fun p hp => by
    rcases List.mem_cons.mp hp with rfl | hp
    · refine ⟨hf, hfn, fun z => ?_, fun z => hfs ?_, fun v z => by cases z⟩
      · obtain ⟨m, ⟨o, es, ep, e1, e2, _⟩, _⟩ := I2.loc
        have z : f = X.env.locals := z
        rw [← z, hf] at e1
        cases e1
        cases e2
      · have z : f ∈ frs X.outer := z
        rcases I2.ok.stk with e1 | ⟨e1, _⟩
        · rw [e1]
          exact z
        · rw [e1]
          unfold frs at z ⊢
          rw [List.filterMap_cons]
          split
          · exact z
          · exact .tail _ z
    · exact I2.pin p (List.mem_append_right _ hp)
  have key : KeyOk X σ H2 xs kf f (PySem.W.kla_obj "<lambda>" (X.env.qual ++ "<lambda>") params body scope (cloFrom X.env.cells scope.names []) pm c' ctv) := by
    intro i x0 v s' pins' ex rx hin I'
    have e0 := I'.env0
    have C := cells_of I' (Caps.made I'.ok hfree hfr hjs)
    have go := lam_run (F := ⟨"<lambda>", X.env.qual ++ "<lambda>", params, [], scope, cloFrom X.env.cells scope.names [], c'⟩) (E := E0) (A := X.A.in1) (k := k) (f := f) S hr.in1
      ⟨e0.frames, e0.mod, e0.bs, e0.bsz, e0.funs, e0.frf, e0.hok, e0.bare⟩ (I'.pin _ (List.mem_append_right _ hin)).1 hco C (hbind _ _ _ _ _ v) (.cons rx .nil) rfl (hbody _ f X.A.in1 X.stack s' H2 E0 rfl (hr.in1.deeper _)) (hk i x0 ex)
    refine wpAny_call (codeAny_mono go fun r s'' hq => ?_)
    cases r with
    | error e => exact hq.elim
    | ok fl =>
      cases fl with
      | ret u =>
        obtain ⟨y, H3, J, ry, rfl, rfl⟩ := I'.after hq
        obtain ⟨t, rfl⟩ := ry
        exact ⟨t, rfl, J⟩
      | next => exact False.elim hq
      | brk => exact False.elim hq
      | cont => exact False.elim hq
  refine min_call (Q := EP X pins σ Q) (hr.hd) (ExtN.seq eN hq) h0 (.head _) key I3 fun i x0 v s' ex rx best J => ?_
  exact ⟨x0, H2, Inv.let_ J fun p hp => .tail _ hp, rx, hQ i x0 ex best⟩
end
end AG
/-! ### the end of a specification's row whose defs make lambdas: the tables of their code objects are tracked from the call's start -/
namespace AG
open PySem PySem.Spec PyProof.Rows L2 LamX
open PySem.W (OpenSpec Codec WData Well WellAll ReadsW)
theorem tup_up {K : PySem.W.Frag} {G H : Hp} {a : Addr} {xs : List V} (e : Same G H) (x : SqT K G a xs) : SqT K H a xs :=
  x.elim (fun y => .inl (y.elim (fun z => .inl (e _ _ z)) fun ⟨o, z⟩ => .inr ⟨o, e _ _ z⟩)) .inr
mutual
theorem dw_up {K : PySem.W.Frag} {G H : Hp} (e : Same G H) : ∀ (v : V) (d : WData), Dw K G v d → Dw K H v d
  | _, _, .non => .non
  | _, _, .bl b => .bl b
  | _, _, .int i => .int i
  | _, _, .str x => .str x
  | _, _, .byt b => .byt b
  | _, _, .lst h r => .lst (e.seq h) (dws_up e _ _ r)
  | _, _, .tup h r => .tup (tup_up e h) (dws_up e _ _ r)
theorem dws_up {K : PySem.W.Frag} {G H : Hp} (e : Same G H) : ∀ (vs : List V) (ds : List WData), DwAll K G vs ds → DwAll K H vs ds
  | _, _, .nil => .nil
  | _, _, .cons h r => .cons (dw_up e _ _ h) (dws_up e _ _ r)
end
abbrev emptyTab : Obj := { cls := .none, data := .fields #[] }
/-- what is tracked at the start: the tables at T, and what was handed in -/
structure Beg (K : PySem.W.Frag) (h : Heap) (T : List Addr) (H : Hp) : Prop where
  tab : ∀ b ∈ T, H b = some (.tbl #[])
  oth : ∀ b u, b ∉ T → H b = some u → ∃ o v, u = .frz o v
  kind : ∀ b u, H b = some u → K.lookup b = none ∧ ∃ o, h.get? b = some o ∧ (o.data = .fields #[] ∨ ∃ vs n, o.data = .seq vs n)
section
variable {P : Program} {w : World} {K : PySem.W.Frag} {h : Heap} {T A : List Addr} {H : Hp}
theorem beg_of (ar : ∀ a ∈ A, ArgOb h A a) (ht : ∀ b ∈ T, h.get? b = some emptyTab) (hk : ∀ b ∈ T, K.lookup b = none) : ∃ H : Hp, Beg K h T H ∧ Same (argH K h A) H ∧ HOk P w H h := by
  have away : ∀ b u, argH K h A b = some u → b ∉ T := fun b u q hb => by
    obtain ⟨_, vs, _, _, z⟩ := argH_is ar q
    rw [ht b hb] at z
    rcases z with ⟨z, _⟩ | ⟨z, _⟩ <;> cases z
  refine ⟨fun b => if b ∈ T then some (.tbl #[]) else argH K h A b, ⟨fun b hb => if_pos hb, fun b u hb q => ?_, fun b u q => ?_⟩, fun b u q => ?_, fun b u q => ?_⟩
  · rw [if_neg hb] at q
    rcases argH_only (K := K) ar b with z | ⟨o, v, z⟩
    · rw [z] at q; cases q
    · rw [z] at q; exact ⟨o, v, (Option.some.inj q).symm⟩
  · by_cases hb : b ∈ T
    · exact ⟨hk b hb, _, ht b hb, .inl rfl⟩
    · rw [if_neg hb] at q
      obtain ⟨e, vs, _, _, z⟩ := argH_is ar q
      rcases z with ⟨z, _⟩ | ⟨z, _⟩ <;> exact ⟨e, _, z, .inr ⟨_, _, rfl⟩⟩
  · dsimp only
    rw [if_neg (away b u q)]
    exact q
  · by_cases hb : b ∈ T
    · dsimp only at q
      rw [if_pos hb] at q
      cases q
      exact ht b hb
    · dsimp only at q
      rw [if_neg hb] at q
      obtain ⟨_, vs, l1, l2, z⟩ := argH_is ar q
      rcases z with ⟨z, rfl⟩ | ⟨z, rfl⟩
      · refine ⟨z, ?_, vs, _, vals_toV l2, z⟩
        rw [List.length_map]; exact l1
      · refine ⟨z, ?_, vs, vals_toV l2, _, z, rfl, _, rfl⟩
        rw [List.length_map]; exact l1
/-- an object of another make is not tracked, so it stands in the ground -/
theorem Beg.ground (B : Beg K h T H) {b : Addr} {o : Obj} (e : h.get? b = some o) (n1 : o.data ≠ .fields #[]) (n2 : ∀ vs n, o.data ≠ .seq vs n) : (hidT h H).get? b = some o := by
  refine hidT_get e ?_
  cases q : H b with
  | none => rfl
  | some u =>
    obtain ⟨_, o', e', z⟩ := B.kind b u q
    obtain rfl : o = o' := Option.some.inj (e.symm.trans e')
    rcases z with z | ⟨vs, n, z⟩
    · exact absurd z n1
    · exact absurd z (n2 vs n)
theorem Beg.ns (B : Beg K h T H) {b : Addr} {m : Str → Option Value} (x : h.Ns b m) : (hidT h H).Ns b m := by
  obtain ⟨o, es, ep, e, d, r⟩ := x
  refine ⟨o, es, ep, B.ground e ?_ ?_, d, r⟩ <;> (rw [d]; intros; intro z; cases z)
theorem Beg.kin (B : Beg K h T H) (X : K.In h) : K.In (hidT h H) := fun b o e => by
  refine hidT_get (X b o e) ?_
  cases q : H b with
  | none => rfl
  | some u =>
    rw [(B.kind b u q).1] at e
    cases e
theorem Beg.tabB (B : Beg K h T H) {mg : Str → Option Value} {c Pt : Addr} (hns : h.Ns mainGlobals mg) (ht : h.get? Pt = some emptyTab) (C : PySem.W.CodeHd h c Pt)
    (hbm : ∃ (bm : Addr) (ob : Obj), mg "__builtins__" = some (.ref bm) ∧ bm ≠ builtinsNs ∧ h.get? bm = some ob ∧ ob.cls = .type "module" ∧ ob.dict = some builtinsNs ∧ ob.data = .plain) : TabB (hidT h H) mg c Pt := by
  obtain ⟨og, es, ep, eg, dg, _⟩ := id hns
  obtain ⟨bm, ob, b1, b2, b3, b4, b5, b6⟩ := hbm
  obtain ⟨o, vs, c1, c2, c3, c4, c5, c6, c7, e, r1, r2, r3, r4⟩ := C
  have unlike : ∀ {a b : Addr} {x y : Obj}, h.get? a = some x → h.get? b = some y → x.data ≠ y.data → a ≠ b := fun {a b x y} e1 e2 n z => by
    rw [z, e2] at e1
    exact n (congrArg Obj.data (Option.some.inj e1)).symm
  refine ⟨⟨o, vs, c1, c2, c3, c4, c5, c6, c7, B.ground e (fun z => ?_) (fun _ _ z => ?_), r1, r2, r3, r4⟩, ⟨bm, ob, b1, b2, ?_, ?_, B.ground b3 (fun z => ?_) (fun _ _ z => ?_), b4, b5, b6⟩, ?_⟩
  · rw [r2] at z
    cases z
    simp at r3
  · rw [r2] at z; cases z
  · exact unlike b3 eg (by rw [b6, dg]; intro z; cases z)
  · exact unlike b3 ht (by rw [b6]; intro z; cases z)
  · rw [b6] at z; cases z
  · rw [b6] at z; cases z
  · exact unlike eg ht (by rw [dg]; intro z; cases z)
/-- behind the call: what stood stands, but that the tables may have grown -/
theorem Beg.after (B : Beg K h T H) {h' : Heap} {H' : Hp} (ht : ∀ b ∈ T, h.get? b = some emptyTab) (ct : ∀ b ∈ T, isCodeTable h b) (ok : HOk P w H h) (ok' : HOk P w H' h') (un : Un (frs []) [] H H' h h') (X : K.In h) : OldK h h' ∧ K.In h' := by
  have keep : ∀ b o, b ∉ T → h.get? b = some o → h'.get? b = some o := fun b o nb e => by
    cases q : H b with
    | none => exact un.keep b o e q (fun z => nomatch (show b ∈ ([] : List Addr) from z)) (fun z => nomatch z)
    | some u =>
      obtain ⟨ob, v, rfl⟩ := B.oth b u nb q
      have e1 := (ok b _ q).1
      have e2 := (ok' b _ (un.frzs b ob v q)).1
      rw [e] at e1
      rw [e2, e1]
  have more : ∀ b ∈ T, ∃ vs : Array Value, h'.get? b = some { cls := .none, data := .fields vs } := fun b hb => by
    obtain ⟨vs, z⟩ := un.tbls b #[] (B.tab b hb)
    exact ⟨_, ok' b _ z⟩
  refine ⟨⟨fun b o e => ?_, fun b o e => ?_⟩, fun b o e => keep b o (fun z => ?_) (X b o e)⟩
  · by_cases hb : b ∈ T
    · obtain ⟨vs, z⟩ := more b hb
      obtain rfl : emptyTab = o := Option.some.inj ((ht b hb).symm.trans e)
      exact .inr (.inl ⟨ct b hb, rfl, #[], vs, rfl, by rw [Array.empty_append]; exact z⟩)
    · exact .inl (keep b o hb e)
  · by_cases hb : b ∈ T
    · exact (more b hb).elim fun vs z => ⟨_, z⟩
    · exact ⟨o, keep b o hb e⟩
  · rw [(B.kind b _ (B.tab b z)).1] at e
    cases e
end
/-- what is known of the row's def at the head's heap h: cs are the code objects of the defs that make lambdas, each with its table -/
structure SpecAt (r : OpenSpec) (w : World) (K : PySem.W.Frag) (k : Nat) (ps : List Str) (sp : PySem.W.Frag → List (Addr × Addr) → Sp) (mg : Str → Option Value) (fa : Addr) (h : Heap) (fd : FuncData) (cs : List (Addr × Addr)) : Prop where
  tab : ∀ p ∈ cs, PySem.W.CodeHd h p.1 p.2 ∧ h.get? p.2 = some emptyTab
  free : ∀ p ∈ cs, K.lookup p.2 = none
  bind : ∀ (s : Shared) (us : List Value), us.length = ps.length → BindsTo s fd ⟨us, []⟩ (ps.zip us)
  ok : ∀ base : Heap, K.In base → base.Ns mainGlobals mg → (∀ p ∈ cs, TabB base mg p.1 p.2) → FnOk r.prog w K mg base CX0 k fa fd ps (sp K cs)
theorem walk_specT {r : OpenSpec} {k : Nat} {q : Program} {loose : List Str} {XP : (Str → Option Value) → Heap → Prop} {YP : World → Heap → Prop} {d : DefRec} {K : Params → PySem.W.Frag} {ps : List Str} {sp : PySem.W.Frag → List (Addr × Addr) → Sp}
    (hwell : r.wellSaid = true) (hlen : r.args.length = ps.length) (hr : Room k callerA) (hY : ∀ (w : World) (h : Heap), YP w h → (K w.params).In h)
    (F : ∀ (w : World) (mg mb : Str → Option Value) (mean : ExcName → Option Value) (fa : Addr) (h : Heap), YP w h → (K w.params).In h → h.Ns mainGlobals mg → Top q (PySem.W.looseW q loose) mean mg mb h → mg d.name = some (.ref fa) →
      ∃ fd cs, SpecAt r w (K w.params) k ps sp mg fa h fd cs)
    (hsp : ∀ (K : PySem.W.Frag) (cs : List (Addr × Addr)) (H : Hp) (xs : List V) (a : Codec.denoteAll r.args), (∀ p ∈ cs, H p.2 = some (.tbl #[])) → Codec.withinAll r.args a = true → Codec.app r.args r.asked a = true → DwAll K H xs (Codec.encAll r.args a) →
      sp K cs xs H (fun v H' => Dw K H' v (r.ret.enc (Codec.app r.args r.f a))) E0) :
    PySem.W.WalkOS q loose XP YP r d [] (fun f vs => PySem.call f vs) := by
  intro w s₀ s mg mb G Y fa o pm cd doc dV kV ho hd hcd hD hmg hg args vals as hpre hlay hrd hwl hlo
  obtain ⟨a, e1, e2⟩ := PySem.W.os_pre_some hpre
  obtain ⟨rfl, hwi⟩ := Codec.encAll_of_decAll r.args args a e1
  have KX := hY w _ Y
  obtain ⟨fd, cs, S⟩ := F w mg mb _ fa _ Y KX G.T.g G.T hmg
  obtain ⟨Ar, au, ar⟩ := area_all _ vals hwl (pl_encAll _ _) (layable_weight hlay)
  have mem : ∀ b ∈ cs.map (·.2), ∃ p ∈ cs, p.2 = b := fun b hb => List.mem_map.mp hb
  have ht : ∀ b ∈ cs.map (·.2), s.heap.get? b = some emptyTab := fun b hb => let ⟨p, hp, e⟩ := mem b hb; e ▸ (S.tab p hp).2
  obtain ⟨H, B, sm, ok⟩ := beg_of (P := r.prog) (w := w) (K := K w.params) ar ht fun b hb => let ⟨p, hp, e⟩ := mem b hb; e ▸ S.free p hp
  have ct : ∀ b ∈ cs.map (·.2), isCodeTable s.heap b := fun b hb => let ⟨p, hp, e⟩ := mem b hb; e ▸ ((S.tab p hp).1.tab (S.tab p hp).2).isCodeTable
  have tabs : ∀ p ∈ cs, H p.2 = some (.tbl #[]) := fun p hp => B.tab p.2 (List.mem_map.mpr ⟨p, hp, rfl⟩)
  have kin := B.kin KX
  have lim : (hidT s.heap H).NoLimit := by
    obtain ⟨m, n1, n2⟩ := G.T.nolimit
    exact ⟨m, B.ns n1, n2⟩
  have e0 : Env0 r.prog w (K w.params) mg (hidT s.heap H) callerA [] s H := by
    refine ⟨rfl, ⟨kin, B.ns G.T.g, ⟨mb, B.ns G.T.b, G.T.builtins⟩, lim⟩, fun b u e => of_hidT e, Nat.le_of_eq (hidT_size _ _), trivial, fun b hb => ?_, ok, .of_eq hg⟩
    exact nomatch (show b ∈ ([] : List Addr) from hb)
  have fn := S.ok _ kin (B.ns G.T.g) fun p hp => B.tabB G.T.g (S.tab p hp).2 (S.tab p hp).1 G.T.bmain
  have lv : vals.length = ps.length := by rw [wellAll_len hwl, encAll_len]; exact hlen
  have go := fn.run callerA [] s H ⟨vals, []⟩ vals (vals.map toV) _ E0 hr e0 (S.bind s vals lv) (vals_toV au) (hsp (K w.params) cs H _ a tabs hwi e2 (dws_up sm _ _ (dw_all KX ar _ vals hwl (pl_encAll _ _) au)))
  refine PySem.W.enter_call (codeAny_mono go fun res s' x => ?_)
  match res, x with
  | .error _, x => exact x.elim
  | .ok .next, x => exact x.elim
  | .ok .brk, x => exact x.elim
  | .ok .cont, x => exact x.elim
  | .ok (.ret u), ⟨v, H', os, bare, un, ok', rv, dv⟩ =>
    obtain ⟨old, KX'⟩ := B.after ht ct ok ok' un KX
    obtain ⟨as', rd⟩ := Dw.reads (R := []) (cl := classAt s₀.heap) ok' KX' _ v u dv rv
    exact ⟨.inl ⟨u, _, as', rfl, fun _ => rfl, rd, (OpenSpec.post_iff hwell hwi _ _).mpr rfl, fun z => Bool.noConfusion (show false = true from z)⟩, old, os, bare⟩
end AG
namespace AG
open PySem PySem.Spec PyProof.Rows L2
def top (i : Nat) : Stmt := PySem.Challenge.pw_agegrades_s01_answers.main.body.getD i (.Pass ⟨0, 0, 0, 0⟩)
/-! ### fields -/
theorem lk_here {k : Str} {v : V} {r : List (Str × V)} : List.lookup k ((k, v) :: r) = some v := by
  have e : (k == k) = true := beq_self_eq_true k
  simp only [List.lookup, e]
theorem lk_past {k g : Str} {v : V} {r : List (Str × V)} (h : (k == g) = false) : List.lookup k ((g, v) :: r) = List.lookup k r := by
  simp only [List.lookup, h]
theorem lk_at0 {k : Str} {v : V} : ∀ {l : List (Str × V)} (i : Nat), l[i]? = some (k, v) → ((l.map (·.1)).take i).all (fun g => !(k == g)) = true → l.lookup k = some v
  | [], i, h, _ => by simp at h
  | (g, u) :: r, 0, h, _ => by
    have e : (g, u) = (k, v) := Option.some.inj h
    cases e
    exact lk_here
  | (g, u) :: r, i + 1, h, d => by
    have d' : (!(k == g) && ((r.map (·.1)).take i).all (fun p => !(k == p))) = true := d
    rw [Bool.and_eq_true] at d'
    rw [lk_past (by simpa using d'.1)]
    exact lk_at0 i h d'.2
/-- a field by its place -/
theorem lk_at {k : Str} {v : V} {l : List (Str × V)} (ns : List Str) (hn : l.map (·.1) = ns) (i : Nat) (h : l[i]? = some (k, v)) (d : (ns.take i).all (fun g => !(k == g)) = true) : l.lookup k = some v :=
  lk_at0 i h (by rw [hn]; exact d)
theorem lk_none0 {k : Str} : ∀ {l : List (Str × V)}, (l.map (·.1)).all (fun g => !(k == g)) = true → l.lookup k = none
  | [], _ => rfl
  | (g, u) :: r, d => by
    have d' : (!(k == g) && (r.map (·.1)).all (fun p => !(k == p))) = true := d
    rw [Bool.and_eq_true] at d'
    rw [lk_past (by simpa using d'.1)]
    exact lk_none0 d'.2
theorem lk_none {k : Str} {l : List (Str × V)} (ns : List Str) (hn : l.map (·.1) = ns) (d : ns.all (fun g => !(k == g)) = true) : l.lookup k = none :=
  lk_none0 (by rw [hn]; exact d)
def oV : Option Nat → V
  | none => .non
  | some n => .int (n : Int)
open Km499
def mN : List Str := ["born", "father", "lives", "age_set", "joined"]
/-- when he joined: None as long as he is in no set -/
def joV (m : Man) : V := match m.set with
  | none => .non
  | some _ => .int (m.joined : Int)
def mG (bo fa li se jo : V) : List (Str × V) := [("born", bo), ("father", fa), ("lives", li), ("age_set", se), ("joined", jo)]
def mF (m : Man) : List (Str × V) := mG (.int (m.born : Int)) (oV m.father) (.bl m.alive) (oV m.set) (joV m)
def pN : List Str := ["term", "grades", "names", "youngest", "oldest", "year", "men", "behind", "office"]
def pF (b : Book) (l : Addr) : List (Str × V) := [("term", .int (b.term : Int)), ("grades", .int (b.grades : Int)), ("names", .int (b.names : Int)), ("youngest", .int (b.low : Int)), ("oldest", .int (b.high : Int)), ("year", .int (b.year : Int)), ("men", .ref l), ("behind", .int (b.behind : Int)), ("office", .int (b.rules : Int))]
theorem mF_n (m : Man) : (mF m).map (·.1) = mN := rfl
theorem pF_n (b : Book) (l : Addr) : (pF b l).map (·.1) = pN := rfl
section
variable (m : Man) (b : Book) (l : Addr)
theorem mF_born : (mF m).lookup ("born" : Str) = some (.int (m.born : Int)) := lk_at mN (mF_n m) 0 rfl (by decide +kernel)
theorem mF_father : (mF m).lookup ("father" : Str) = some (oV m.father) := lk_at mN (mF_n m) 1 rfl (by decide +kernel)
theorem mF_lives : (mF m).lookup ("lives" : Str) = some (.bl m.alive) := lk_at mN (mF_n m) 2 rfl (by decide +kernel)
theorem mF_set : (mF m).lookup ("age_set" : Str) = some (oV m.set) := lk_at mN (mF_n m) 3 rfl (by decide +kernel)
theorem mF_joined : (mF m).lookup ("joined" : Str) = some (joV m) := lk_at mN (mF_n m) 4 rfl (by decide +kernel)
theorem pF_term : (pF b l).lookup ("term" : Str) = some (.int (b.term : Int)) := lk_at pN (pF_n b l) 0 rfl (by decide +kernel)
theorem pF_grades : (pF b l).lookup ("grades" : Str) = some (.int (b.grades : Int)) := lk_at pN (pF_n b l) 1 rfl (by decide +kernel)
theorem pF_names : (pF b l).lookup ("names" : Str) = some (.int (b.names : Int)) := lk_at pN (pF_n b l) 2 rfl (by decide +kernel)
theorem pF_low : (pF b l).lookup ("youngest" : Str) = some (.int (b.low : Int)) := lk_at pN (pF_n b l) 3 rfl (by decide +kernel)
theorem pF_high : (pF b l).lookup ("oldest" : Str) = some (.int (b.high : Int)) := lk_at pN (pF_n b l) 4 rfl (by decide +kernel)
theorem pF_year : (pF b l).lookup ("year" : Str) = some (.int (b.year : Int)) := lk_at pN (pF_n b l) 5 rfl (by decide +kernel)
theorem pF_men : (pF b l).lookup ("men" : Str) = some (.ref l) := lk_at pN (pF_n b l) 6 rfl (by decide +kernel)
theorem pF_behind : (pF b l).lookup ("behind" : Str) = some (.int (b.behind : Int)) := lk_at pN (pF_n b l) 7 rfl (by decide +kernel)
theorem pF_office : (pF b l).lookup ("office" : Str) = some (.int (b.rules : Int)) := lk_at pN (pF_n b l) 8 rfl (by decide +kernel)
/-- no method's name is a field -/
theorem pF_no {x : Str} (d : pN.all (fun g => !(x == g)) = true) : (pF b l).lookup x = none := lk_none pN (pF_n b l) d
end
/-! ### how a people lies in the heap -/
def ManAt (CM : Addr) (H : Hp) (a : Addr) (m : Man) : Prop := ∃ dx, H a = some (.ins CM dx (mF m))
structure WF (b : Book) : Prop where
  t1 : 1 ≤ b.term
  t2 : b.term ≤ 20
  g1 : 2 ≤ b.grades
  g2 : b.grades ≤ 8
  n1 : 2 ≤ b.names
  n2 : b.names ≤ 16
  lh : b.low ≤ b.high
  h60 : b.high ≤ 60
  y : b.year ≤ 400
  ru : b.rules < b.grades
  m : b.men.length ≤ 24
  bo : ∀ i, i < b.n → (b.at_ i).born ≤ b.year
  fa : ∀ i p, i < b.n → (b.at_ i).father = some p → p < i
  se : ∀ i s, i < b.n → (b.at_ i).set = some s → s ≤ b.newest b.year
  jo : ∀ i, i < b.n → (b.at_ i).set = none → (b.at_ i).joined = 0
structure PAt (CP CM : Addr) (H : Hp) (p l : Addr) (as : List Addr) (b : Book) : Prop where
  obj : ∃ dx, H p = some (.ins CP dx (pF b l))
  lst : H l = some (.lst (as.map V.ref))
  len : as.length = b.n
  men : ∀ i a, as[i]? = some a → ManAt CM H a (b.at_ i)
  nd : as.Nodup
  wf : WF b
def consts : List (Str × Int) := [("NO_SUCH_MAN", -2), ("NO_SUCH_CHANGE", -2), ("NOBODY_MAY", -6), ("TOO_NEAR", -13), ("DEAD_OR_NEWBORN", -16), ("ALREADY_SO", -17), ("OUT_OF_BOUNDS", -22), ("PEOPLE_FULL", -28), ("NONE_THERE", -33),
  ("LAST_YEAR", 400), ("MOST_MEN", 24), ("MOST_BEHIND", 12), ("MOST_TAKEN_BACK", 20), ("START", 0), ("MOST_YEARS_A_TERM", 20), ("LEAST_GRADES", 2), ("MOST_GRADES", 8), ("LEAST_NAMES", 2), ("MOST_NAMES", 16), ("GREATEST_AGE", 60)]
/-- what the top has written of the two classes -/
structure TxS (K : PySem.W.Frag) (mg : Str → Option Value) (CP CM : Addr) : Prop where
  ne : CP ≠ CM
  clP : Cls K CP
  clM : Cls K CM
  naP : ∀ x ∈ pN, NoAttr K CP x
  naM : ∀ x ∈ mN, NoAttr K CM x
  gP : mg "People" = some (.ref CP)
  gM : mg "Man" = some (.ref CM)
  cs : ∀ p ∈ consts, ∃ t, mg p.1 = some (.int p.2 t)
  len : mg "len" = none
  enumerate : mg "enumerate" = none
  range : mg "range" = none
  any : mg "any" = none
  min : mg "min" = none
  max : mg "max" = none
section
variable {K : PySem.W.Frag} {mg : Str → Option Value} {CP CM p l a : Addr} {as : List Addr} {b : Book} {m : Man} {H : Hp} {σ : L2.St} {Q : VK} {i : Nat} {f : Str} {v : V}
/-- the last part of reading o.f -/
theorem fP {R : V → Prop} (T : TxS K mg CP CM) (P : PAt CP CM H p l as b) (hf : f ∈ pN) (lk : (pF b l).lookup f = some v) (q : R v) : ∃ a C dx fs w, V.ref p = V.ref a ∧ H a = some (.ins C dx fs) ∧ Cls K C ∧ NoAttr K C f ∧ fs.lookup f = some w ∧ R w := by
  obtain ⟨dx, hp⟩ := P.obj
  exact ⟨p, CP, dx, _, v, rfl, hp, T.clP, T.naP f hf, lk, q⟩
theorem fM {R : V → Prop} (T : TxS K mg CP CM) (M : ManAt CM H a m) (hf : f ∈ mN) (lk : (mF m).lookup f = some v) (q : R v) : ∃ a' C dx fs w, V.ref a = V.ref a' ∧ H a' = some (.ins C dx fs) ∧ Cls K C ∧ NoAttr K C f ∧ fs.lookup f = some w ∧ R w := by
  obtain ⟨dx, hp⟩ := M
  exact ⟨a, CM, dx, _, v, rfl, hp, T.clM, T.naM f hf, lk, q⟩
/-- the last part of calling o.m -/
theorem cP {R : Prop} (P : PAt CP CM H p l as b) (d : pN.all (fun g => !(f == g)) = true) (q : R) : ∃ a dx fs, V.ref p = V.ref a ∧ H a = some (.ins CP dx fs) ∧ fs.lookup f = none ∧ R := by
  obtain ⟨dx, hp⟩ := P.obj
  exact ⟨p, dx, _, rfl, hp, pF_no b l d, q⟩
theorem in_pN (x : Str) (h : decide (x ∈ pN) = true) : x ∈ pN := of_decide_eq_true h
theorem fdiv_nat (a b : Nat) : ((a : Int)).fdiv (b : Int) = ((a / b : Nat) : Int) := by
  rw [Int.fdiv_eq_ediv_of_nonneg _ (Int.natCast_nonneg b)]
  rfl
theorem fmod_nat (a b : Nat) : ((a : Int)).fmod (b : Int) = ((a % b : Nat) : Int) := by
  rw [Int.fmod_eq_emod_of_nonneg _ (Int.natCast_nonneg b)]
  rfl
end
end AG
namespace AG
open PySem PySem.Spec PyProof.Rows L2 Km499
abbrev sNewestIn : Stmt := inClass (top 4) 1
abbrev sNewest : Stmt := inClass (top 4) 2
abbrev sYearsLeft : Stmt := inClass (top 4) 3
abbrev sNameOf : Stmt := inClass (top 4) 4
abbrev sHasMan : Stmt := inClass (top 4) 5
abbrev sHasGrade : Stmt := inClass (top 4) 6
abbrev sHasName : Stmt := inClass (top 4) 7
abbrev sSetIn : Stmt := inClass (top 4) 8
abbrev sGradeOf : Stmt := inClass (top 4) 9
abbrev sHasRetired : Stmt := inClass (top 4) 10
abbrev sAgeOf : Stmt := inClass (top 4) 11
section
variable {P : Program} {w : World} {K : PySem.W.Frag} {mg : Str → Option Value} {base : Heap} {CP CM : Addr}
/-- the class's methods as they are found, each with its promise -/
structure MethAt (K : PySem.W.Frag) (C : Addr) (m q : Str) (st : Stmt) (f : Addr) (fd : FuncData) (ps : List Str) : Prop where
  fn : Fun K m q st f fd
  mt : Meth K C m f
  bi : Binds K fd ps []
def spNewestIn (CP CM : Addr) : Sp := fun vs H Q _ => ∃ p l as b y, vs = [.ref p, .int ((y : Nat) : Int)] ∧ PAt CP CM H p l as b ∧ Q (.int (b.newest y : Nat)) H
theorem scNewestIn : FnScope ["self", "year"] ["self", "year"] (defScope sNewestIn) := ⟨rfl, rfl, rfl, by decide +kernel, rfl, by decide +kernel, by decide +kernel⟩
theorem ok_newestIn {f : Addr} {fd : FuncData} (F : Fun K "newest_in" "People.newest_in" sNewestIn f fd) (T : TxS K mg CP CM) : FnOk P w K mg base CX0 1 f fd ["self", "year"] (spNewestIn CP CM) := by
  refine F.ok scNewestIn (fun vs H Q E h => ?_) (fun cdv A outer s H vs Q E hr h => ?_)
  · obtain ⟨p, l, as, b, y, rfl, _⟩ := h
    rfl
  · obtain ⟨p, l, as, b, y, rfl, hP, q⟩ := h
    refine ⟨_, pss_one (ps_ret (pe_op op_fdivN (pv 1) (pe_fld (pv 0) rfl))), ?_⟩
    refine ⟨_, rfl, _, rfl, fP T hP (by decide +kernel) (pF_term b l) ?_⟩
    refine ⟨_, _, rfl, rfl, ?_, ?_⟩
    · have := hP.wf.t1
      have := hP.wf.t2
      show ((b.term : Int) ≠ 0 ∧ ((b.term : Int)).natAbs < 1073741824)
      omega
    · show Q (.int (Int.fdiv _ _)) H
      rw [fdiv_nat]
      exact q
def spNewest (CP CM : Addr) : Sp := fun vs H Q _ => ∃ p l as b, vs = [.ref p] ∧ PAt CP CM H p l as b ∧ Q (.int (b.newest b.year : Nat)) H
theorem scNewest : FnScope ["self"] ["self"] (defScope sNewest) := ⟨rfl, rfl, rfl, by decide +kernel, rfl, by decide +kernel, by decide +kernel⟩
theorem ok_newest {f fI : Addr} {fd fdI : FuncData} (F : Fun K "newest" "People.newest" sNewest f fd) (T : TxS K mg CP CM) (MI : MethAt K CP "newest_in" "People.newest_in" sNewestIn fI fdI ["self", "year"]) : FnOk P w K mg base CX0 2 f fd ["self"] (spNewest CP CM) := by
  have GI : FnOk P w K mg base CX0 1 fI fdI ["self", "year"] (spNewestIn CP CM) := ok_newestIn MI.fn T
  refine F.ok scNewest (fun vs H Q E h => ?_) (fun cdv A outer s H vs Q E hr h => ?_)
  · obtain ⟨p, l, as, b, rfl, _⟩ := h
    rfl
  · obtain ⟨p, l, as, b, rfl, hP, q⟩ := h
    refine ⟨_, pss_one (ps_ret (pe_meth (pv 0) T.clP MI.mt GI hr MI.bi .nil pass0 (pa_cons (pe_fld (pv 0) rfl) pa_nil))), ?_⟩
    exact ⟨_, rfl, cP hP (by decide +kernel) ⟨_, rfl, fP T hP (by decide +kernel) (pF_year b l) ⟨p, l, as, b, b.year, rfl, hP, q⟩⟩⟩
def spYearsLeft (CP CM : Addr) : Sp := fun vs H Q _ => ∃ p l as b, vs = [.ref p] ∧ PAt CP CM H p l as b ∧ Q (.int ((b.term - b.year % b.term : Nat) : Int)) H
theorem scYearsLeft : FnScope ["self"] ["self"] (defScope sYearsLeft) := ⟨rfl, rfl, rfl, by decide +kernel, rfl, by decide +kernel, by decide +kernel⟩
theorem ok_yearsLeft {f : Addr} {fd : FuncData} (F : Fun K "years_left" "People.years_left" sYearsLeft f fd) (T : TxS K mg CP CM) : FnOk P w K mg base CX0 1 f fd ["self"] (spYearsLeft CP CM) := by
  refine F.ok scYearsLeft (fun vs H Q E h => ?_) (fun cdv A outer s H vs Q E hr h => ?_)
  · obtain ⟨p, l, as, b, rfl, _⟩ := h
    rfl
  · obtain ⟨p, l, as, b, rfl, hP, q⟩ := h
    refine ⟨_, pss_one (ps_ret (pe_op op_sub (pe_fld (pv 0) rfl) (pe_op op_modN (pe_fld (pv 0) rfl) (pe_fld (pv 0) rfl)))), ?_⟩
    have h1 := hP.wf.t1
    refine ⟨_, rfl, fP T hP (by decide +kernel) (pF_term b l) ?_⟩
    refine ⟨_, rfl, fP T hP (by decide +kernel) (pF_year b l) ?_⟩
    refine ⟨_, rfl, fP T hP (by decide +kernel) (pF_term b l) ?_⟩
    refine ⟨_, _, rfl, rfl, by omega, _, _, rfl, rfl, ?_⟩
    show Q (.int (_ - Int.fmod _ _)) H
    rw [fmod_nat]
    have h2 : b.year % b.term < b.term := Nat.mod_lt _ h1
    have e : ((b.term : Int) - ((b.year % b.term : Nat) : Int)) = ((b.term - b.year % b.term : Nat) : Int) := by omega
    rw [e]
    exact q
def spNameOf (CP CM : Addr) : Sp := fun vs H Q _ => ∃ p l as b s, vs = [.ref p, .int ((s : Nat) : Int)] ∧ PAt CP CM H p l as b ∧ Q (.int (b.name s : Nat)) H
theorem scNameOf : FnScope ["self", "age_set"] ["self", "age_set"] (defScope sNameOf) := ⟨rfl, rfl, rfl, by decide +kernel, rfl, by decide +kernel, by decide +kernel⟩
theorem ok_nameOf {f : Addr} {fd : FuncData} (F : Fun K "name_of" "People.name_of" sNameOf f fd) (T : TxS K mg CP CM) : FnOk P w K mg base CX0 1 f fd ["self", "age_set"] (spNameOf CP CM) := by
  refine F.ok scNameOf (fun vs H Q E h => ?_) (fun cdv A outer s H vs Q E hr h => ?_)
  · obtain ⟨p, l, as, b, s, rfl, _⟩ := h
    rfl
  · obtain ⟨p, l, as, b, s, rfl, hP, q⟩ := h
    refine ⟨_, pss_one (ps_ret (pe_op op_modN (pv 1) (pe_fld (pv 0) rfl))), ?_⟩
    refine ⟨_, rfl, _, rfl, fP T hP (by decide +kernel) (pF_names b l) ⟨_, _, rfl, rfl, ?_, ?_⟩⟩
    · have := hP.wf.n1
      omega
    · show Q (.int (Int.fmod _ _)) H
      rw [fmod_nat]
      exact q
def spHasMan (CP CM : Addr) : Sp := fun vs H Q _ => ∃ p l as b i, vs = [.ref p, .int i] ∧ PAt CP CM H p l as b ∧ Q (.bl (decide (i < (b.n : Int)))) H
theorem scHasMan : FnScope ["self", "number"] ["self", "number"] (defScope sHasMan) := ⟨rfl, rfl, rfl, by decide +kernel, rfl, by decide +kernel, by decide +kernel⟩
theorem ok_hasMan {f : Addr} {fd : FuncData} (F : Fun K "has_man" "People.has_man" sHasMan f fd) (T : TxS K mg CP CM) : FnOk P w K mg base CX0 1 f fd ["self", "number"] (spHasMan CP CM) := by
  refine F.ok scHasMan (fun vs H Q E h => ?_) (fun cdv A outer s H vs Q E hr h => ?_)
  · obtain ⟨p, l, as, b, s, rfl, _⟩ := h
    rfl
  · obtain ⟨p, l, as, b, i, rfl, hP, q⟩ := h
    refine ⟨_, pss_one (ps_ret (pe_cmp (pc_lt (pv 1) (pe_callB call_len_seq (by rfl) T.len PySem.boot_len (pa_cons (pe_fld (pv 0) rfl) pa_nil))) rfl)), ?_⟩
    refine ⟨_, rfl, _, rfl, fP T hP (by decide +kernel) (pF_men b l) ⟨l, _, rfl, .inl (SqL.of hP.lst), _, _, rfl, rfl, ?_⟩⟩
    rw [List.length_map, hP.len]
    exact q
def spHasGrade (CP CM : Addr) : Sp := fun vs H Q _ => ∃ p l as b i, vs = [.ref p, .int i] ∧ PAt CP CM H p l as b ∧ Q (.bl (decide (i < (b.grades : Int)))) H
theorem scHasGrade : FnScope ["self", "grade"] ["self", "grade"] (defScope sHasGrade) := ⟨rfl, rfl, rfl, by decide +kernel, rfl, by decide +kernel, by decide +kernel⟩
theorem ok_hasGrade {f : Addr} {fd : FuncData} (F : Fun K "has_grade" "People.has_grade" sHasGrade f fd) (T : TxS K mg CP CM) : FnOk P w K mg base CX0 1 f fd ["self", "grade"] (spHasGrade CP CM) := by
  refine F.ok scHasGrade (fun vs H Q E h => ?_) (fun cdv A outer s H vs Q E hr h => ?_)
  · obtain ⟨p, l, as, b, s, rfl, _⟩ := h
    rfl
  · obtain ⟨p, l, as, b, i, rfl, hP, q⟩ := h
    refine ⟨_, pss_one (ps_ret (pe_cmp (pc_lt (pv 1) (pe_fld (pv 0) rfl)) rfl)), ?_⟩
    exact ⟨_, rfl, _, rfl, fP T hP (by decide +kernel) (pF_grades b l) ⟨_, _, rfl, rfl, q⟩⟩
def spAgeOf (CP CM : Addr) : Sp := fun vs H Q _ => ∃ p l as b a m, vs = [.ref p, .ref a] ∧ PAt CP CM H p l as b ∧ ManAt CM H a m ∧ Q (.int ((b.year : Int) - (m.born : Int))) H
theorem scAgeOf : FnScope ["self", "man"] ["self", "man"] (defScope sAgeOf) := ⟨rfl, rfl, rfl, by decide +kernel, rfl, by decide +kernel, by decide +kernel⟩
theorem ok_ageOf {f : Addr} {fd : FuncData} (F : Fun K "age_of" "People.age_of" sAgeOf f fd) (T : TxS K mg CP CM) : FnOk P w K mg base CX0 1 f fd ["self", "man"] (spAgeOf CP CM) := by
  refine F.ok scAgeOf (fun vs H Q E h => ?_) (fun cdv A outer s H vs Q E hr h => ?_)
  · obtain ⟨p, l, as, b, a, m, rfl, _⟩ := h
    rfl
  · obtain ⟨p, l, as, b, a, m, rfl, hP, hM, q⟩ := h
    refine ⟨_, pss_one (ps_ret (pe_op op_sub (pe_fld (pv 0) rfl) (pe_fld (pv 1) rfl))), ?_⟩
    refine ⟨_, rfl, fP T hP (by decide +kernel) (pF_year b l) ?_⟩
    refine ⟨_, rfl, fM T hM (by decide +kernel) (mF_born m) ?_⟩
    exact ⟨_, _, rfl, rfl, q⟩
def spHasName (CP CM : Addr) : Sp := fun vs H Q _ => ∃ p l as b i, vs = [.ref p, .int i] ∧ PAt CP CM H p l as b ∧ Q (.bl (decide (i < (b.names : Int)))) H
theorem scHasName : FnScope ["self", "name"] ["self", "name"] (defScope sHasName) := ⟨rfl, rfl, rfl, by decide +kernel, rfl, by decide +kernel, by decide +kernel⟩
theorem ok_hasName {f : Addr} {fd : FuncData} (F : Fun K "has_name" "People.has_name" sHasName f fd) (T : TxS K mg CP CM) : FnOk P w K mg base CX0 1 f fd ["self", "name"] (spHasName CP CM) := by
  refine F.ok scHasName (fun vs H Q E h => ?_) (fun cdv A outer s H vs Q E hr h => ?_)
  · obtain ⟨p, l, as, b, s, rfl, _⟩ := h
    rfl
  · obtain ⟨p, l, as, b, i, rfl, hP, q⟩ := h
    refine ⟨_, pss_one (ps_ret (pe_cmp (pc_lt (pv 1) (pe_fld (pv 0) rfl)) rfl)), ?_⟩
    exact ⟨_, rfl, _, rfl, fP T hP (by decide +kernel) (pF_names b l) ⟨_, _, rfl, rfl, q⟩⟩
def spGradeOf (CP CM : Addr) : Sp := fun vs H Q _ => ∃ p l as b s, vs = [.ref p, .int s] ∧ PAt CP CM H p l as b ∧ Q (.int ((b.newest b.year : Nat) - s)) H
theorem scGradeOf : FnScope ["self", "age_set"] ["self", "age_set"] (defScope sGradeOf) := ⟨rfl, rfl, rfl, by decide +kernel, rfl, by decide +kernel, by decide +kernel⟩
theorem ok_gradeOf {f fN : Addr} {fd fdN : FuncData} (F : Fun K "grade_of" "People.grade_of" sGradeOf f fd) (T : TxS K mg CP CM) (MN : MethAt K CP "newest" "People.newest" sNewest fN fdN ["self"]) (GN : FnOk P w K mg base CX0 2 fN fdN ["self"] (spNewest CP CM)) : FnOk P w K mg base CX0 3 f fd ["self", "age_set"] (spGradeOf CP CM) := by
  refine F.ok scGradeOf (fun vs H Q E h => ?_) (fun cdv A outer s H vs Q E hr h => ?_)
  · obtain ⟨p, l, as, b, s, rfl, _⟩ := h
    rfl
  · obtain ⟨p, l, as, b, s, rfl, hP, q⟩ := h
    refine ⟨_, pss_one (ps_ret (pe_op op_sub (pe_meth0 (pv 0) T.clP MN.mt GN hr MN.bi .nil pass0) (pv 1))), ?_⟩
    exact ⟨_, rfl, cP hP (by decide +kernel) ⟨p, l, as, b, rfl, hP, _, rfl, _, _, rfl, rfl, q⟩⟩
def spSetIn (CP CM : Addr) : Sp := fun vs H Q _ => ∃ p l as b g, vs = [.ref p, .int ((g : Nat) : Int)] ∧ PAt CP CM H p l as b ∧ Q (oV (if g ≤ b.newest b.year then some (b.newest b.year - g) else none)) H
theorem scSetIn : FnScope ["self", "grade", "age_set"] ["self", "grade"] (defScope sSetIn) := ⟨rfl, rfl, rfl, by decide +kernel, rfl, by decide +kernel, by decide +kernel⟩
theorem ok_setIn {f fN : Addr} {fd fdN : FuncData} (F : Fun K "set_in" "People.set_in" sSetIn f fd) (T : TxS K mg CP CM) (MN : MethAt K CP "newest" "People.newest" sNewest fN fdN ["self"]) (GN : FnOk P w K mg base CX0 2 fN fdN ["self"] (spNewest CP CM)) : FnOk P w K mg base CX0 3 f fd ["self", "grade"] (spSetIn CP CM) := by
  refine F.ok scSetIn (fun vs H Q E h => ?_) (fun cdv A outer s H vs Q E hr h => ?_)
  · obtain ⟨p, l, as, b, s, rfl, _⟩ := h
    rfl
  · obtain ⟨p, l, as, b, g, rfl, hP, q⟩ := h
    refine ⟨_, pss_cons (ps_set (i := 2) scSetIn.nd rfl (Or.inl rfl) (pe_op op_sub (pe_meth0 (pv 0) T.clP MN.mt GN hr MN.bi .nil pass0) (pv 1)))
      (pss_one (ps_ret (pe_ifExp (pt_cmpR op_ge (pv 2) pe_int (nomark _)) (pv 2) pe_non))), ?_⟩
    refine ⟨_, rfl, cP hP (by decide +kernel) ⟨p, l, as, b, rfl, hP, _, rfl, _, _, rfl, rfl, ?_⟩⟩
    refine ⟨_, rfl, _, _, rfl, rfl, _, rfl, ?_⟩
    refine ite2 (fun c => ?_) (fun c => ?_)
    · have c' : (0 : Int) ≤ (b.newest b.year : Nat) - (g : Int) := of_decide_eq_true c
      have e : g ≤ b.newest b.year := by omega
      rw [if_pos e] at q
      refine ⟨_, rfl, ?_⟩
      have e2 : ((b.newest b.year : Nat) : Int) - (g : Int) = ((b.newest b.year - g : Nat) : Int) := by omega
      show Q (.int (((b.newest b.year : Nat) : Int) - (g : Int))) H
      rw [e2]
      exact q
    · have c' : ¬ (0 : Int) ≤ (b.newest b.year : Nat) - (g : Int) := fun z => c (decide_eq_true z)
      have e : ¬ g ≤ b.newest b.year := by omega
      rw [if_neg e] at q
      exact q
def spHasRetired (CP CM : Addr) : Sp := fun vs H Q _ => ∃ p l as b s, vs = [.ref p, .int s] ∧ PAt CP CM H p l as b ∧ Q (.bl (!decide (((b.newest b.year : Nat) - s : Int) < (b.grades : Int)))) H
theorem scHasRetired : FnScope ["self", "age_set"] ["self", "age_set"] (defScope sHasRetired) := ⟨rfl, rfl, rfl, by decide +kernel, rfl, by decide +kernel, by decide +kernel⟩
theorem ok_hasRetired {f fG fO : Addr} {fd fdG fdO : FuncData} (F : Fun K "has_retired" "People.has_retired" sHasRetired f fd) (T : TxS K mg CP CM) (MG : MethAt K CP "has_grade" "People.has_grade" sHasGrade fG fdG ["self", "grade"])
    (MO : MethAt K CP "grade_of" "People.grade_of" sGradeOf fO fdO ["self", "age_set"]) (GO : FnOk P w K mg base CX0 3 fO fdO ["self", "age_set"] (spGradeOf CP CM)) : FnOk P w K mg base CX0 4 f fd ["self", "age_set"] (spHasRetired CP CM) := by
  have GG : FnOk P w K mg base CX0 1 fG fdG ["self", "grade"] (spHasGrade CP CM) := ok_hasGrade MG.fn T
  refine F.ok scHasRetired (fun vs H Q E h => ?_) (fun cdv A outer s H vs Q E hr h => ?_)
  · obtain ⟨p, l, as, b, s, rfl, _⟩ := h
    rfl
  · obtain ⟨p, l, as, b, s, rfl, hP, q⟩ := h
    refine ⟨_, pss_one (ps_ret (pe_not (pe_meth (pv 0) T.clP MG.mt GG (hr.mono (by decide)) MG.bi .nil pass0 (pa_cons (pe_meth (pv 0) T.clP MO.mt GO hr MO.bi .nil pass0 (pa_cons (pv 1) pa_nil)) pa_nil)))), ?_⟩
    exact ⟨_, rfl, cP hP (by decide +kernel) ⟨_, rfl, cP hP (by decide +kernel) ⟨_, rfl, p, l, as, b, s, rfl, hP, p, l, as, b, _, rfl, hP, _, rfl, q⟩⟩⟩
end
end AG
namespace AG
open PySem PySem.Spec PyProof.Rows L2 Km499
section
variable {H H' : Hp} {CP CM p l a D : Addr} {as : List Addr} {b : Book} {m : Man}
theorem ManAt.same (h : ManAt CM H a m) (s : Same H H') : ManAt CM H' a m := by
  obtain ⟨dx, h⟩ := h
  exact ⟨dx, s _ _ h⟩
theorem PAt.same (h : PAt CP CM H p l as b) (s : Same H H') : PAt CP CM H' p l as b := by
  obtain ⟨dx, h1⟩ := h.obj
  exact ⟨⟨dx, s _ _ h1⟩, s _ _ h.lst, h.len, fun i a e => (h.men i a e).same s, h.nd, h.wf⟩
theorem same_new {o : HO} (h : H a = none) : Same H (upd H a o) := fun b u e => by
  rw [upd_ne (ne_of_none e h)]
  exact e
/-- a man of the people by his number -/
theorem PAt.man (h : PAt CP CM H p l as b) {i : Nat} (hi : i < b.n) : ∃ a, as[i]? = some a ∧ ManAt CM H a (b.at_ i) := by
  have hl : i < as.length := by rw [h.len]; exact hi
  exact ⟨as[i], List.getElem?_eq_getElem hl, h.men i _ (List.getElem?_eq_getElem hl)⟩
theorem iV (n : Nat) : V.int ((n : Nat) : Int) = V.int (n : Int) := rfl
def nV (l : List Nat) : List V := l.map fun (i : Nat) => V.int (i : Int)
end
abbrev sLivingIn : Stmt := inClass (top 4) 12
section
variable {P : Program} {w : World} {K : PySem.W.Frag} {mg : Str → Option Value} {base : Heap} {CP CM : Addr}
def spLivingIn (CP CM : Addr) : Sp := fun vs H Q _ => ∃ p l as b s, vs = [.ref p, .int ((s : Nat) : Int)] ∧ PAt CP CM H p l as b ∧ ∀ H' D, Same H H' → H D = none → H' D = some (.lst (nV (b.living s))) → Q (.ref D) H'
theorem scLivingIn : FnScope ["self", "age_set", "number", "man"] ["self", "age_set"] (defScope sLivingIn) := ⟨rfl, rfl, rfl, by decide +kernel, rfl, by decide +kernel, by decide +kernel⟩
theorem oV_scal (o : Option Nat) (s : Nat) : scal (oV o) (.int (s : Int)) = true := by cases o <;> rfl
theorem oV_eq (o : Option Nat) (s : Nat) : decide (oV o = .int (s : Int)) = (o == some s) := by
  cases o with
  | none => rfl
  | some n =>
    rw [Bool.eq_iff_iff]
    simp [oV]
    omega
theorem living_eq (b : Book) (s : Nat) : b.living s = b.all.filter fun i => (b.at_ i).alive && (b.at_ i).set == some s := by
  unfold Book.living Book.members
  rw [List.filter_filter]
theorem range_filter_succ (f : Nat → Bool) (i : Nat) : (List.range (i + 1)).filter f = (List.range i).filter f ++ (if f i = true then [i] else []) := by
  rw [List.range_succ, List.filter_append, List.filter_cons, List.filter_nil]
theorem len_filter_range (f : Nat → Bool) (i : Nat) : ((List.range i).filter f).length ≤ i := by
  have := List.length_filter_le f (List.range i)
  simpa using this
theorem ok_livingIn {f : Addr} {fd : FuncData} (F : Fun K "living_in" "People.living_in" sLivingIn f fd) (T : TxS K mg CP CM) : FnOk P w K mg base CX0 1 f fd ["self", "age_set"] (spLivingIn CP CM) := by
  refine F.ok scLivingIn (fun vs H Q E h => ?_) (fun cdv A outer s H vs Q E hr h => ?_)
  · obtain ⟨p, l, as, b, s, rfl, _⟩ := h
    rfl
  · obtain ⟨p, l, as, b, s, rfl, hP, q⟩ := h
    refine ⟨_, pss_one (ps_ret (pe_lc (own := [("number", 2), ("man", 3)]) (g := gTup K 2 (gCons (gName 2) (gCons (gName 3) gNil))) (tt := tAnd (tB (tFld K (tVar 3) "lives")) (tTest (tOp rEq (tFld K (tVar 3) "age_set") (tVar 1)))) (te := tVar 2) rfl scLivingIn.nd (pi_enum (by rfl) T.enumerate (pa_cons (pe_fld (pv 0) rfl) pa_nil))
      (blkOk_by (own := [("number", 2), ("man", 3)]) (N := ["self", "age_set", "number", "man"]) (sc := defScope sLivingIn) (by decide +kernel))
      (fun _ _ _ _ _ => pg_tup rfl (pgs_cons (pg_name (i := 2) scLivingIn.nd rfl (Or.inl rfl)) (pgs_cons (pg_name (i := 3) scLivingIn.nd rfl (Or.inl rfl)) pgs_nil)))
      (fun _ _ _ _ _ => pts_one (PW.pt (pw_and (pt_val (pe_fld (pv 3) rfl)) (pw_and1 (pt_cmpR op_eq (pe_fld (pv 3) rfl) (pv 1) (nomark _))))))
      (fun _ _ _ _ _ => pv 2))), ?_⟩
    refine ⟨_, rfl, fP T hP (by decide +kernel) (pF_men b l) ?_⟩
    refine ⟨l, _, rfl, SqL.of hP.lst, fun D hD => ?_⟩
    refine lc_it (walk_enum (K := K) (a := l) (xs := as.map V.ref)) (fun i H' => Same H H' ∧ H' D = some (.lst (nV ((List.range i).filter fun j => (b.at_ j).alive && (b.at_ j).set == some s))))
      ⟨same_new hD, upd_same⟩ (fun i H' _ h => SqL.of (h.1 _ _ hP.lst)) ?_ ?_
    · rintro i x H1 H2 hi ⟨s1, d1⟩ ⟨t, x1, y1, rfl, ht, rfl, e1, e2⟩
      cases e1
      rw [List.length_map] at hi
      have e2' : (as.map V.ref)[i]? = some y1 := e2
      rw [List.getElem?_map, List.getElem?_eq_getElem hi] at e2'
      obtain rfl : V.ref as[i] = y1 := Option.some.inj e2'
      have hM : ManAt CM H as[i] (b.at_ i) := hP.men i _ (List.getElem?_eq_getElem hi)
      have s2 : Same H (upd H1 t (.tup [.int (i : Nat), .ref as[i]])) := s1.trans (same_new ht)
      have d2 : upd H1 t (.tup [.int (i : Nat), .ref as[i]]) D = some (.lst (nV ((List.range i).filter fun j => (b.at_ j).alive && (b.at_ j).set == some s))) := by
        rw [upd_ne (ne_of_none d1 ht)]
        exact d1
      refine ⟨t, _, rfl, SqT.of upd_same, rfl, _, _, rfl, _, _, rfl, rfl, rfl, ?_⟩
      refine ⟨_, rfl, fM T (hM.same s2) (by decide +kernel) (mF_lives _) ⟨_, rfl, ?_⟩⟩
      have fin : ∀ c : Bool, ((b.at_ i).alive && (b.at_ i).set == some s) = c → (if c = true then ∃ acc, upd H1 t (.tup [.int (i : Nat), .ref as[i]]) D = some (.lst acc) ∧ acc.length < sizeLine ∧
            (Same H (upd (upd H1 t (.tup [.int (i : Nat), .ref as[i]])) D (.lst (acc ++ [V.int (i : Nat)]))) ∧ upd (upd H1 t (.tup [.int (i : Nat), .ref as[i]])) D (.lst (acc ++ [V.int (i : Nat)])) D = some (.lst (nV ((List.range (i + 1)).filter fun j => (b.at_ j).alive && (b.at_ j).set == some s))))
          else (Same H (upd H1 t (.tup [.int (i : Nat), .ref as[i]])) ∧ upd H1 t (.tup [.int (i : Nat), .ref as[i]]) D = some (.lst (nV ((List.range (i + 1)).filter fun j => (b.at_ j).alive && (b.at_ j).set == some s))))) := by
        intro c hc
        rw [range_filter_succ, hc]
        cases c with
        | true =>
          refine iteT ⟨_, d2, ?_, ?_, ?_⟩
          · have h1 := len_filter_range (fun j => (b.at_ j).alive && (b.at_ j).set == some s) i
            have h2 := hP.wf.m
            have h3 := hP.len
            have h4 : as.length ≤ 24 := by rw [h3]; exact h2
            unfold nV
            rw [List.length_map]
            exact Nat.lt_of_le_of_lt (Nat.le_trans h1 (by omega : i ≤ 24)) (by decide)
          · intro x o e
            rw [upd_ne (ne_of_none e hD)]
            exact s2 _ _ e
          · rw [upd_same]
            unfold nV
            rw [List.map_append]
            rfl
        | false =>
          refine iteF ⟨s2, ?_⟩
          rw [d2]
          simp
      cases hal : (b.at_ i).alive with
      | false =>
        refine iteF ?_
        have := fin false (by rw [hal]; rfl)
        exact this
      | true =>
        refine iteT ?_
        refine ⟨_, rfl, fM T (hM.same s2) (by decide +kernel) (mF_set _) ⟨_, rfl, oV_scal _ _, _, rfl, ?_⟩⟩
        rw [oV_eq]
        have h1 := fin _ rfl
        rw [hal, Bool.true_and] at h1
        cases hse : ((b.at_ i).set == some s) with
        | true =>
          rw [hse] at h1
          rw [if_pos rfl] at h1
          exact iteT ⟨_, rfl, h1⟩
        | false =>
          rw [hse] at h1
          exact h1
    · rintro H1 ⟨s1, d1⟩
      refine q H1 D s1 hD ?_
      rw [d1, List.length_map, hP.len, living_eq]
      rfl
end
end AG
namespace AG
open PySem PySem.Spec PyProof.Rows L2 Km499
abbrev sAsSet : Stmt := top 7
section
variable {P : Program} {w : World} {K : PySem.W.Frag} {mg : Str → Option Value} {base : Heap} {CP CM : Addr}
/-- as a set of men: two numbers -/
def asSet (ns : List Nat) : List V := [.int (ns.length : Nat), .int ((bits ns : Nat) : Int)]
def spAsSet (K : PySem.W.Frag) : Sp := fun vs H Q _ => ∃ a ns, vs = [.ref a] ∧ SqL K H a (nV ns) ∧ (∀ i ∈ ns, i < 24) ∧ ∀ H' D, Same H H' → H D = none → H' D = some (.lst (asSet ns)) → Q (.ref D) H'
theorem scAsSet : FnScope ["numbers", "together", "number", "power", "doubling"] ["numbers"] (defScope sAsSet) := ⟨rfl, rfl, rfl, by decide +kernel, rfl, by decide +kernel, by decide +kernel⟩
theorem bits_take_succ {ns : List Nat} {i n : Nat} (h : ns[i]? = some n) : bits (ns.take (i + 1)) = bits (ns.take i) + 2 ^ n := by
  rw [List.take_add_one, h, bits_append]
  show bits (List.take i ns) + bits [n] = _
  rw [bits_one]
theorem ok_asSet {f : Addr} {fd : FuncData} (F : Fun K "counted_and_together" "counted_and_together" sAsSet f fd) (T : TxS K mg CP CM) : FnOk P w K mg base CX0 1 f fd ["numbers"] (spAsSet K) := by
  refine F.ok scAsSet (fun vs H Q E h => ?_) (fun cdv A outer s H vs Q E hr h => ?_)
  · obtain ⟨a, ns, rfl, _⟩ := h
    rfl
  · obtain ⟨a, ns, rfl, hS, h24, q⟩ := h
    refine ⟨_, pss_cons (ps_set (i := 1) scAsSet.nd rfl (Or.inl rfl) pe_int)
      (pss_cons (ps_for PassesOwn.never rfl (pi_list (pv 0)) (pg_name (i := 2) scAsSet.nd rfl (Or.inl rfl))
        (pss_cons (ps_set (i := 3) scAsSet.nd rfl (Or.inl rfl) pe_int)
        (pss_cons (ps_for PassesOwn.never rfl (pi_range1 (by rfl) T.range (pa_cons (pv 2) pa_nil)) (pg_name (i := 4) scAsSet.nd rfl (Or.inl rfl))
          (pss_one (ps_aug (i := 3) scAsSet.nd rfl (Or.inl rfl) (pv 3) ip_add)))
        (pss_one (ps_aug (i := 1) scAsSet.nd rfl (Or.inl rfl) (pv 3) ip_add)))))
      (pss_one (ps_ret (pe_lst (pa_cons (pe_callB call_len_seq (by rfl) T.len PySem.boot_len (pa_cons (pv 0) pa_nil)) (pa_cons (pv 1) pa_nil)))))), ?_⟩
    refine ⟨_, rfl, a, rfl, ⟨_, hS⟩, for_list (xs := nV ns) (fun i σ H' => H' = H ∧ ∃ v2 v3 v4, σ = [some (.ref a), some (.int ((bits (ns.take i) : Nat) : Int)), v2, v3, v4])
      ⟨rfl, none, none, none, rfl⟩ (fun i σ H' _ h => by rw [h.1]; exact hS) ?_ ?_⟩
    · rintro i x σ H1 ex ⟨rfl, v2, v3, v4, rfl⟩
      unfold nV at ex
      rw [List.getElem?_map] at ex
      cases en : ns[i]? with
      | none =>
        rw [en] at ex
        cases ex
      | some n =>
        rw [en] at ex
        obtain rfl : V.int (n : Int) = x := Option.some.inj ex
        have hn := h24 n (List.mem_of_getElem? en)
        refine ⟨_, rfl, (n : Int), rfl, by omega, by omega, ?_⟩
        rw [Int.toNat_natCast]
        refine for_range (lo := 0) (n := n) (fun k σ H' => H' = H1 ∧ ∃ v, σ = [some (.ref a), some (.int ((bits (ns.take i) : Nat) : Int)), some (.int (n : Int)), some (.int ((2 ^ k : Nat) : Int)), v])
          ⟨rfl, v4, rfl⟩ ?_ ?_
        · rintro k σ H2 hk ⟨rfl, v, rfl⟩
          have e : ((2 ^ k : Nat) : Int) + ((2 ^ k : Nat) : Int) = ((2 ^ (k + 1) : Nat) : Int) := by
            rw [Nat.pow_succ]
            omega
          refine ⟨_, rfl, _, rfl, _, _, rfl, rfl, rfl, some (.int (0 + (k : Int))), ?_⟩
          show [some (V.ref a), _, _, some (V.int (((2 ^ k : Nat) : Int) + ((2 ^ k : Nat) : Int))), _] = _
          rw [e]
        · rintro σ H2 ⟨rfl, v, rfl⟩
          refine ⟨_, rfl, _, rfl, _, _, rfl, rfl, rfl, some (.int (n : Int)), some (.int ((2 ^ n : Nat) : Int)), v, ?_⟩
          rw [bits_take_succ en, Int.natCast_add]
          rfl
    · rintro σ H1 ⟨rfl, v2, v3, v4, rfl⟩
      refine ⟨_, rfl, a, _, rfl, .inl hS, _, rfl, (by show 2 ≤ sizeLine; decide), fun D hD => ?_⟩
      refine q _ D (same_new hD) hD ?_
      rw [upd_same]
      have e : ns.take (nV ns).length = ns := by
        unfold nV
        rw [List.length_map, List.take_length]
      rw [e]
      unfold nV asSet
      rw [List.length_map]
end
end AG
namespace AG
open PySem PySem.Spec PyProof.Rows L2 Km499
abbrev sOfAge : Stmt := top 9
abbrev sYearFar : Stmt := top 10
abbrev sNear : Stmt := top 11
abbrev sSon : Stmt := top 12
abbrev sTooNear : Stmt := top 13
abbrev sOutside : Stmt := top 14
abbrev sMayJoin : Stmt := top 15
abbrev sWho : Stmt := top 16
/-! ### the mirror -/
def ageOk (b : Book) (m : Man) : Bool := decide ((b.low : Int) ≤ (b.year : Int) - (m.born : Int)) && decide ((b.year : Int) - (m.born : Int) ≤ (b.high : Int))
/-- from this year on he is not too near his father -/
def farYear (b : Book) (m : Man) : Nat := match m.father with
  | none => 0
  | some p => match (b.at_ p).set with
    | none => 0
    | some t => (t + b.behind) * b.term
def nearF (b : Book) (m : Man) : Bool := decide (b.year < farYear b m)
def sonIn (b : Book) (i : Nat) : Bool := b.all.any fun j => (b.at_ j).father == some i && (b.at_ j).set != none
def tooNear (b : Book) (i : Nat) : Bool := nearF b (b.at_ i) || sonIn b i
theorem far_opt {tm : Nat} (ht : 1 ≤ tm) (o : Option Nat) (bh y : Nat) : (match o with
  | none => true
  | some t => decide (t + bh ≤ y / tm)) = decide ((match o with
  | none => 0
  | some t => (t + bh) * tm) ≤ y) := by
  cases o with
  | none => simp
  | some t =>
    rw [Bool.eq_iff_iff]
    simp only [decide_eq_true_eq]
    exact Nat.le_div_iff_mul_le (by omega)
theorem far_at {b : Book} (ht : 1 ≤ b.term) (i y : Nat) : b.far i (b.newest y) = (decide (farYear b (b.at_ i) ≤ y) && !sonIn b i) := by
  unfold Book.far sonIn Book.fathers farYear
  congr 1
  · cases (b.at_ i).father with
    | none => simp
    | some p =>
      exact far_opt ht (b.at_ p).set b.behind y
  · rw [Bool.eq_iff_iff]
    simp
    constructor
    · intro h x hx he
      rcases h x hx with h | h
      · exact absurd he h
      · exact h
    · intro h x hx
      by_cases e : (b.at_ x).father = some i
      · exact .inr (h x hx e)
      · exact .inl e
theorem far_is {b : Book} (ht : 1 ≤ b.term) (i : Nat) : b.far i (b.newest b.year) = !tooNear b i := by
  rw [far_at ht]
  unfold tooNear nearF
  rw [Bool.not_or]
  congr 1
  rw [Bool.eq_iff_iff]
  simp
theorem may_is {b : Book} {i : Nat} (ht : 1 ≤ b.term) : b.may i = ((b.at_ i).alive && ((b.at_ i).set == none && (ageOk b (b.at_ i) && !tooNear b i))) := by
  unfold Book.may Book.fits
  rw [far_is ht]
  unfold ageOk
  rw [Bool.and_assoc]
  have e1 : decide ((b.at_ i).born + b.low ≤ b.year) = decide ((b.low : Int) ≤ (b.year : Int) - ((b.at_ i).born : Int)) := by
    rw [Bool.eq_iff_iff, decide_eq_true_eq, decide_eq_true_eq]
    omega
  have e2 : decide (b.year ≤ (b.at_ i).born + b.high) = decide ((b.year : Int) - ((b.at_ i).born : Int) ≤ (b.high : Int)) := by
    rw [Bool.eq_iff_iff, decide_eq_true_eq, decide_eq_true_eq]
    omega
  rw [e1, e2]
/-- a def of the module -/
structure FnAt (K : PySem.W.Frag) (mg : Str → Option Value) (x : Str) (st : Stmt) (f : Addr) (fd : FuncData) (ps : List Str) : Prop where
  fn : Fun K x x st f fd
  g : mg x = some (.ref f)
  bi : Binds K fd ps []
section
variable {P : Program} {w : World} {K : PySem.W.Frag} {mg : Str → Option Value} {base : Heap} {CP CM : Addr}
def spOfAge (CP CM : Addr) : Sp := fun vs H Q _ => ∃ p l as b a m, vs = [.ref p, .ref a] ∧ PAt CP CM H p l as b ∧ ManAt CM H a m ∧ Q (.bl (ageOk b m)) H
theorem scOfAge : FnScope ["people", "man"] ["people", "man"] (defScope sOfAge) := ⟨rfl, rfl, rfl, by decide +kernel, rfl, by decide +kernel, by decide +kernel⟩
theorem ok_ofAge {f fA : Addr} {fd fdA : FuncData} (F : Fun K "is_of_age" "is_of_age" sOfAge f fd) (T : TxS K mg CP CM) (MA : MethAt K CP "age_of" "People.age_of" sAgeOf fA fdA ["self", "man"]) : FnOk P w K mg base CX0 2 f fd ["people", "man"] (spOfAge CP CM) := by
  have GA : FnOk P w K mg base CX0 1 fA fdA ["self", "man"] (spAgeOf CP CM) := ok_ageOf MA.fn T
  refine F.ok scOfAge (fun vs H Q E h => ?_) (fun cdv A outer s H vs Q E hr h => ?_)
  · obtain ⟨p, l, as, b, a, m, rfl, _⟩ := h
    rfl
  · obtain ⟨p, l, as, b, a, m, rfl, hP, hM, q⟩ := h
    refine ⟨_, pss_one (ps_ret (pe_chain op_le op_le (pe_fld (pv 0) rfl) (pe_meth (pv 0) T.clP MA.mt GA hr MA.bi .nil pass0 (pa_cons (pv 1) pa_nil)) (pe_fld (pv 0) rfl))), ?_⟩
    refine ⟨_, rfl, fP T hP (by decide +kernel) (pF_low b l) ?_⟩
    refine ⟨_, rfl, cP hP (by decide +kernel) ⟨_, rfl, p, l, as, b, a, m, rfl, hP, hM, _, _, rfl, rfl, _, rfl, ?_⟩⟩
    refine ite2 (fun c => ?_) (fun c => ?_)
    · refine ⟨_, rfl, fP T hP (by decide +kernel) (pF_high b l) ⟨_, _, rfl, rfl, ?_⟩⟩
      unfold ageOk at q
      rw [c, Bool.true_and] at q
      exact q
    · unfold ageOk at q
      rw [Bool.eq_false_iff.mpr c, Bool.false_and] at q
      exact q
theorem dec_lt (i n : Nat) : decide ((i : Int) < (n : Int)) = decide (i < n) := by
  rw [Bool.eq_iff_iff, decide_eq_true_eq, decide_eq_true_eq]
  omega
def spYearFar (CP CM : Addr) : Sp := fun vs H Q _ => ∃ p l as b a m, vs = [.ref p, .ref a] ∧ PAt CP CM H p l as b ∧ ManAt CM H a m ∧ (∀ i, m.father = some i → i < b.n) ∧ Q (.int ((farYear b m : Nat) : Int)) H
theorem scYearFar : FnScope ["people", "man", "fathers_set"] ["people", "man"] (defScope sYearFar) := ⟨rfl, rfl, rfl, by decide +kernel, rfl, by decide +kernel, by decide +kernel⟩
theorem ok_yearFar {f : Addr} {fd : FuncData} (F : Fun K "year_far_from_father" "year_far_from_father" sYearFar f fd) (T : TxS K mg CP CM) : FnOk P w K mg base CX0 1 f fd ["people", "man"] (spYearFar CP CM) := by
  refine F.ok scYearFar (fun vs H Q E h => ?_) (fun cdv A outer s H vs Q E hr h => ?_)
  · obtain ⟨p, l, as, b, a, m, rfl, _⟩ := h
    rfl
  · obtain ⟨p, l, as, b, a, m, rfl, hP, hM, hf, q⟩ := h
    refine ⟨_, pss_cons (ps_if (pt_cmp (pc_isN (pe_fld (pv 1) rfl))) (pss_one (ps_ret pe_int)) pss_nil)
      (pss_cons (ps_set (i := 2) scYearFar.nd rfl (Or.inl rfl) (pe_fld (pe_ix ix_list (pe_fld (pv 0) rfl) (pe_fld (pv 1) rfl) (fun _ _ => rfl)) rfl))
      (pss_cons (ps_if (pt_cmp (pc_isN (pv 2))) (pss_one (ps_ret pe_int)) pss_nil)
      (pss_one (ps_ret (pe_op op_mul (pe_op op_add (pv 2) (pe_fld (pv 0) rfl)) (pe_fld (pv 0) rfl)))))), ?_⟩
    refine ⟨_, rfl, fM T hM (by decide +kernel) (mF_father m) ⟨_, rfl, ?_⟩⟩
    unfold farYear at q
    cases e : m.father with
    | none =>
      rw [e] at q
      exact iteT q
    | some j =>
      rw [e] at q
      refine iteF ?_
      have hj := hf j e
      obtain ⟨a', ha', hM'⟩ := hP.man hj
      refine ⟨_, rfl, fP T hP (by decide +kernel) (pF_men b l) ⟨_, rfl, fM T hM (by decide +kernel) (mF_father m) ?_⟩⟩
      rw [e]
      refine ⟨l, _, _, .ref a', rfl, rfl, SqL.of hP.lst, atI_nat (by rw [List.getElem?_map, ha']; rfl), ?_⟩
      refine fM T hM' (by decide +kernel) (mF_set _) ?_
      refine ⟨_, rfl, _, rfl, ?_⟩
      dsimp only at q
      cases e2 : (b.at_ j).set with
      | none =>
        rw [e2] at q
        exact iteT q
      | some t =>
        rw [e2] at q
        refine iteF ⟨_, rfl, _, rfl, fP T hP (by decide +kernel) (pF_behind b l) ⟨_, _, rfl, rfl, _, rfl, fP T hP (by decide +kernel) (pF_term b l) ⟨_, _, rfl, rfl, .inr ⟨?_, ?_⟩, ?_⟩⟩⟩
        · show (-(2 ^ 64) : Int) < (b.term : Int)
          omega
        · have := hP.wf.t2
          show (b.term : Int) < 2 ^ 64
          omega
        · show Q (.int (((t : Int) + (b.behind : Int)) * (b.term : Int))) H
          rw [← Int.natCast_add, ← Int.natCast_mul]
          exact q
def spNear (CP CM : Addr) : Sp := fun vs H Q _ => ∃ p l as b a m, vs = [.ref p, .ref a] ∧ PAt CP CM H p l as b ∧ ManAt CM H a m ∧ (∀ i, m.father = some i → i < b.n) ∧ Q (.bl (nearF b m)) H
theorem scNear : FnScope ["people", "man"] ["people", "man"] (defScope sNear) := ⟨rfl, rfl, rfl, by decide +kernel, rfl, by decide +kernel, by decide +kernel⟩
theorem ok_near {f fY : Addr} {fd fdY : FuncData} (F : Fun K "is_near_father" "is_near_father" sNear f fd) (T : TxS K mg CP CM) (AY : FnAt K mg "year_far_from_father" sYearFar fY fdY ["people", "man"]) : FnOk P w K mg base CX0 2 f fd ["people", "man"] (spNear CP CM) := by
  have GY : FnOk P w K mg base CX0 1 fY fdY ["people", "man"] (spYearFar CP CM) := ok_yearFar AY.fn T
  refine F.ok scNear (fun vs H Q E h => ?_) (fun cdv A outer s H vs Q E hr h => ?_)
  · obtain ⟨p, l, as, b, a, m, rfl, _⟩ := h
    rfl
  · obtain ⟨p, l, as, b, a, m, rfl, hP, hM, hf, q⟩ := h
    refine ⟨_, pss_one (ps_ret (pe_cmp (pc_lt (pe_fld (pv 0) rfl) (pe_call GY hr (by rfl) AY.g AY.fn.kp AY.bi .nil pass0 (pa_cons (pv 0) (pa_cons (pv 1) pa_nil)))) rfl)), ?_⟩
    refine ⟨_, rfl, fP T hP (by decide +kernel) (pF_year b l) ⟨_, rfl, _, rfl, p, l, as, b, a, m, rfl, hP, hM, hf, _, _, rfl, rfl, ?_⟩⟩
    unfold nearF at q
    rw [← dec_lt] at q
    exact q
def spOutside (CM : Addr) : Sp := fun vs H Q _ => ∃ a m, vs = [.ref a] ∧ ManAt CM H a m ∧ Q (.bl (m.alive && m.set == none)) H
theorem scOutside : FnScope ["man"] ["man"] (defScope sOutside) := ⟨rfl, rfl, rfl, by decide +kernel, rfl, by decide +kernel, by decide +kernel⟩
theorem oV_non (o : Option Nat) : decide (oV o = .non) = (o == none) := by cases o <;> rfl
theorem ok_outside {f : Addr} {fd : FuncData} (F : Fun K "is_outside" "is_outside" sOutside f fd) (T : TxS K mg CP CM) : FnOk P w K mg base CX0 1 f fd ["man"] (spOutside CM) := by
  refine F.ok scOutside (fun vs H Q E h => ?_) (fun cdv A outer s H vs Q E hr h => ?_)
  · obtain ⟨a, m, rfl, _⟩ := h
    rfl
  · obtain ⟨a, m, rfl, hM, q⟩ := h
    refine ⟨_, pss_one (ps_ret (pe_and (pe_fld (pv 0) rfl) (pe_one (pe_cmp (pc_isN (pe_fld (pv 0) rfl)) rfl)))), ?_⟩
    refine ⟨_, rfl, fM T hM (by decide +kernel) (mF_lives m) ⟨_, rfl, ?_⟩⟩
    cases hal : m.alive with
    | false =>
      rw [hal, Bool.false_and] at q
      exact iteF q
    | true =>
      rw [hal, Bool.true_and, ← oV_non] at q
      exact iteT ⟨_, rfl, fM T hM (by decide +kernel) (mF_set m) q⟩
end
end AG
namespace AG
open PySem PySem.Spec PyProof.Rows L2 Km499
section
variable {P : Program} {w : World} {K : PySem.W.Frag} {mg : Str → Option Value} {base : Heap} {CP CM : Addr}
def sonB (b : Book) (i j : Nat) : Bool := (b.at_ j).father == some i && (b.at_ j).set != none
theorem nV_len (l : List Nat) : (nV l).length = l.length := by unfold nV; rw [List.length_map]
theorem PAt.few {H : Hp} {p l : Addr} {as : List Addr} {b : Book} (h : PAt CP CM H p l as b) : b.n ≤ 24 := h.wf.m
def spSon (CP CM : Addr) : Sp := fun vs H Q _ => ∃ p l as b i, vs = [.ref p, .int ((i : Nat) : Int)] ∧ PAt CP CM H p l as b ∧ ∀ H', Same H H' → Q (.bl (sonIn b i)) H'
theorem scSon : FnScope ["people", "number", "man"] ["people", "number"] (defScope sSon) := ⟨rfl, rfl, rfl, by decide +kernel, rfl, by decide +kernel, by decide +kernel⟩
theorem ok_son {f : Addr} {fd : FuncData} (F : Fun K "has_son_in_set" "has_son_in_set" sSon f fd) (T : TxS K mg CP CM) : FnOk P w K mg base CX0 1 f fd ["people", "number"] (spSon CP CM) := by
  refine F.ok scSon (fun vs H Q E h => ?_) (fun cdv A outer s H vs Q E hr h => ?_)
  · obtain ⟨p, l, as, b, i, rfl, _⟩ := h
    rfl
  · obtain ⟨p, l, as, b, i, rfl, hP, q⟩ := h
    refine ⟨_, pss_one (ps_ret (pe_callB (cr_any rfl) (by rfl) T.any (by decide +kernel) (pa_cons (pe_lc (own := [("man", 2)]) (g := gName 2) (tt := tYes)
      (te := tAndV (tOp rEq (tFld K (tVar 2) "father") (tVar 1)) (tNotN (tFld K (tVar 2) "age_set"))) rfl scSon.nd (pi_list (pe_fld (pv 0) rfl))
      (blkOk_by (own := [("man", 2)]) (N := ["people", "number", "man"]) (sc := defScope sSon) (by decide +kernel))
      (fun _ _ _ _ _ => pg_name (i := 2) scSon.nd rfl (Or.inl rfl)) (fun _ _ _ _ _ => pts_nil)
      (fun _ _ _ _ _ => pe_and (pe_cmpR op_eq (pe_fld (pv 2) rfl) (pv 1) (nomark _)) (pe_one (pe_cmp (pc_notN (pe_fld (pv 2) rfl)) rfl)))) pa_nil))), ?_⟩
    refine ⟨_, rfl, fP T hP (by decide +kernel) (pF_men b l) ?_⟩
    refine ⟨l, rfl, ⟨_, SqL.of hP.lst⟩, fun D hD => ?_⟩
    refine lc_list (K := K) (a := l) (xs := as.map V.ref) (fun k H' => Same H H' ∧ H' D = some (.lst (((List.range k).map (sonB b i)).map V.bl)))
      ⟨same_new hD, upd_same⟩ (fun k H' _ h => SqL.of (h.1 _ _ hP.lst)) ?_ ?_
    · rintro k x H1 e1 ⟨s1, d1⟩
      rw [List.getElem?_map] at e1
      cases e2 : as[k]? with
      | none =>
        rw [e2] at e1
        cases e1
      | some a' =>
        rw [e2] at e1
        obtain rfl : V.ref a' = x := Option.some.inj e1
        have hk : k < as.length := (List.getElem?_eq_some_iff.mp e2).1
        have hM := (hP.men k _ e2).same s1
        refine ⟨rfl, ?_⟩
        refine ⟨_, rfl, fM T hM (by decide +kernel) (mF_father _) ⟨_, rfl, oV_scal _ _, _, rfl, ?_⟩⟩
        rw [oV_eq]
        have fin : ∃ acc, H1 D = some (.lst acc) ∧ acc.length < sizeLine ∧ (Same H (upd H1 D (.lst (acc ++ [V.bl (sonB b i k)]))) ∧ upd H1 D (.lst (acc ++ [V.bl (sonB b i k)])) D = some (.lst (((List.range (k + 1)).map (sonB b i)).map V.bl))) := by
          refine ⟨_, d1, ?_, ?_, ?_⟩
          · rw [List.length_map, List.length_map, List.length_range]
            have h3 := hP.len
            have h4 := hP.few
            exact Nat.lt_of_le_of_lt (by omega : k ≤ 24) (by decide)
          · intro x o e
            rw [upd_ne (ne_of_none e hD)]
            exact s1 _ _ e
          · rw [upd_same, List.range_succ, List.map_append, List.map_append]
            rfl
        unfold sonB at fin
        cases hc : ((b.at_ k).father == some i) with
        | false =>
          rw [hc, Bool.false_and] at fin
          exact iteF fin
        | true =>
          rw [hc, Bool.true_and] at fin
          refine iteT ⟨_, rfl, fM T hM (by decide +kernel) (mF_set _) ?_⟩
          have e3 : (!decide (oV (b.at_ k).set = .non)) = ((b.at_ k).set != none) := by rw [oV_non]; rfl
          rw [← e3] at fin
          exact fin
    · rintro H1 ⟨s1, d1⟩
      refine ⟨D, _, rfl, SqL.of d1, ?_⟩
      have e : ((List.range (as.map V.ref).length).map (sonB b i)).any id = sonIn b i := by
        rw [List.length_map, hP.len, List.any_map]
        rfl
      rw [e]
      exact q H1 s1
def spTooNear (CP CM : Addr) : Sp := fun vs H Q _ => ∃ p l as b i, vs = [.ref p, .int ((i : Nat) : Int)] ∧ PAt CP CM H p l as b ∧ i < b.n ∧ ∀ H', Same H H' → Q (.bl (tooNear b i)) H'
theorem scTooNear : FnScope ["people", "number"] ["people", "number"] (defScope sTooNear) := ⟨rfl, rfl, rfl, by decide +kernel, rfl, by decide +kernel, by decide +kernel⟩
theorem PAt.item {H : Hp} {p l : Addr} {as : List Addr} {b : Book} (_h : PAt CP CM H p l as b) {i : Nat} {a : Addr} (e : as[i]? = some a) : atI (as.map V.ref) (i : Int) = some (.ref a) := atI_nat (by rw [List.getElem?_map, e]; rfl)
theorem ok_tooNear {f fN fS : Addr} {fd fdN fdS : FuncData} (F : Fun K "is_too_near" "is_too_near" sTooNear f fd) (T : TxS K mg CP CM)
    (AN : FnAt K mg "is_near_father" sNear fN fdN ["people", "man"]) (AS : FnAt K mg "has_son_in_set" sSon fS fdS ["people", "number"])
    (GN : FnOk P w K mg base CX0 2 fN fdN ["people", "man"] (spNear CP CM)) (GS : FnOk P w K mg base CX0 1 fS fdS ["people", "number"] (spSon CP CM)) : FnOk P w K mg base CX0 3 f fd ["people", "number"] (spTooNear CP CM) := by
  refine F.ok scTooNear (fun vs H Q E h => ?_) (fun cdv A outer s H vs Q E hr h => ?_)
  · obtain ⟨p, l, as, b, i, rfl, _⟩ := h
    rfl
  · obtain ⟨p, l, as, b, i, rfl, hP, hi, q⟩ := h
    refine ⟨_, pss_one (ps_ret (pe_or (pe_call GN hr (by rfl) AN.g AN.fn.kp AN.bi .nil pass0 (pa_cons (pv 0) (pa_cons (pe_ix ix_list (pe_fld (pv 0) rfl) (pv 1) (fun _ _ => rfl)) pa_nil)))
      (pe_one (pe_call GS (hr.mono (by decide)) (by rfl) AS.g AS.fn.kp AS.bi .nil pass0 (pa_cons (pv 0) (pa_cons (pv 1) pa_nil)))))), ?_⟩
    obtain ⟨a, ea, hM⟩ := hP.man hi
    refine ⟨_, rfl, _, rfl, fP T hP (by decide +kernel) (pF_men b l) ⟨_, rfl, l, _, _, .ref a, rfl, rfl, SqL.of hP.lst, hP.item ea, ?_⟩⟩
    refine ⟨p, l, as, b, a, _, rfl, hP, hM, fun j e => Nat.lt_trans (hP.wf.fa i j hi e) hi, _, rfl, ?_⟩
    unfold tooNear at q
    cases hc : nearF b (b.at_ i) with
    | true =>
      rw [hc, Bool.true_or] at q
      exact iteT (q H (Same.refl H))
    | false =>
      rw [hc, Bool.false_or] at q
      exact iteF ⟨_, rfl, _, rfl, p, l, as, b, i, rfl, hP, q⟩
def spMayJoin (CP CM : Addr) : Sp := fun vs H Q _ => ∃ p l as b i, vs = [.ref p, .int ((i : Nat) : Int)] ∧ PAt CP CM H p l as b ∧ i < b.n ∧ ∀ H', Same H H' → Q (.bl (b.may i)) H'
theorem scMayJoin : FnScope ["people", "number", "man"] ["people", "number"] (defScope sMayJoin) := ⟨rfl, rfl, rfl, by decide +kernel, rfl, by decide +kernel, by decide +kernel⟩
theorem ok_mayJoin {f fO fA fT : Addr} {fd fdO fdA fdT : FuncData} (F : Fun K "may_join" "may_join" sMayJoin f fd) (T : TxS K mg CP CM) (AO : FnAt K mg "is_outside" sOutside fO fdO ["man"])
    (AA : FnAt K mg "is_of_age" sOfAge fA fdA ["people", "man"]) (AT : FnAt K mg "is_too_near" sTooNear fT fdT ["people", "number"])
    (GA : FnOk P w K mg base CX0 2 fA fdA ["people", "man"] (spOfAge CP CM)) (GT : FnOk P w K mg base CX0 3 fT fdT ["people", "number"] (spTooNear CP CM)) : FnOk P w K mg base CX0 4 f fd ["people", "number"] (spMayJoin CP CM) := by
  have GO : FnOk P w K mg base CX0 1 fO fdO ["man"] (spOutside CM) := ok_outside AO.fn T
  refine F.ok scMayJoin (fun vs H Q E h => ?_) (fun cdv A outer s H vs Q E hr h => ?_)
  · obtain ⟨p, l, as, b, i, rfl, _⟩ := h
    rfl
  · obtain ⟨p, l, as, b, i, rfl, hP, hi, q⟩ := h
    refine ⟨_, pss_cons (ps_set (i := 2) scMayJoin.nd rfl (Or.inl rfl) (pe_ix ix_list (pe_fld (pv 0) rfl) (pv 1) (fun _ _ => rfl)))
      (pss_one (ps_ret (pe_and (pe_call GO (hr.mono (by decide)) (by rfl) AO.g AO.fn.kp AO.bi .nil pass0 (pa_cons (pv 2) pa_nil))
        (pe_and (pe_call GA (hr.mono (by decide)) (by rfl) AA.g AA.fn.kp AA.bi .nil pass0 (pa_cons (pv 0) (pa_cons (pv 2) pa_nil)))
        (pe_one (pe_not (pe_call GT hr (by rfl) AT.g AT.fn.kp AT.bi .nil pass0 (pa_cons (pv 0) (pa_cons (pv 1) pa_nil))))))))), ?_⟩
    obtain ⟨a, ea, hM⟩ := hP.man hi
    rw [may_is hP.wf.t1, ← Bool.and_assoc] at q
    refine ⟨_, rfl, fP T hP (by decide +kernel) (pF_men b l) ⟨_, rfl, l, _, _, .ref a, rfl, rfl, SqL.of hP.lst, hP.item ea, ?_⟩⟩
    refine ⟨_, rfl, a, _, rfl, hM, _, rfl, ?_⟩
    cases hou : ((b.at_ i).alive && (b.at_ i).set == none) with
    | false =>
      rw [hou, Bool.false_and] at q
      exact iteF (q H (Same.refl H))
    | true =>
      rw [hou, Bool.true_and] at q
      refine iteT ⟨_, rfl, _, rfl, p, l, as, b, a, _, rfl, hP, hM, _, rfl, ?_⟩
      cases hag : ageOk b (b.at_ i) with
      | false =>
        rw [hag, Bool.false_and] at q
        exact iteF (q H (Same.refl H))
      | true =>
        rw [hag, Bool.true_and] at q
        exact iteT ⟨_, rfl, _, rfl, p, l, as, b, i, rfl, hP, hi, fun H' s' => ⟨_, rfl, q H' s'⟩⟩
def spWho (CP CM : Addr) : Sp := fun vs H Q _ => ∃ p l as b, vs = [.ref p] ∧ PAt CP CM H p l as b ∧ ∀ H' D, Same H H' → H D = none → H' D = some (.lst (nV (b.all.filter b.may))) → Q (.ref D) H'
theorem scWho : FnScope ["people", "number"] ["people"] (defScope sWho) := ⟨rfl, rfl, rfl, by decide +kernel, rfl, by decide +kernel, by decide +kernel⟩
theorem ok_who {f fM : Addr} {fd fdM : FuncData} (F : Fun K "who_may_join" "who_may_join" sWho f fd) (T : TxS K mg CP CM) (AM : FnAt K mg "may_join" sMayJoin fM fdM ["people", "number"]) (GM : FnOk P w K mg base CX0 4 fM fdM ["people", "number"] (spMayJoin CP CM)) :
    FnOk P w K mg base CX0 5 f fd ["people"] (spWho CP CM) := by
  refine F.ok scWho (fun vs H Q E h => ?_) (fun cdv A outer s H vs Q E hr h => ?_)
  · obtain ⟨p, l, as, b, rfl, _⟩ := h
    rfl
  · obtain ⟨p, l, as, b, rfl, hP, q⟩ := h
    refine ⟨_, pss_one (ps_ret (pe_lc (own := [("number", 1)]) (g := gName 1) (tt := tB (tCall (spMayJoin CP CM) [] E0 (tCons (tVar 0) (tCons (tVar 1) tNil)))) (te := tVar 1) rfl scWho.nd
      (pi_range1 (by rfl) T.range (pa_cons (pe_callB call_len_seq (by rfl) T.len PySem.boot_len (pa_cons (pe_fld (pv 0) rfl) pa_nil)) pa_nil))
      (blkOk_by (own := [("number", 1)]) (N := ["people", "number"]) (sc := defScope sWho) (by decide +kernel))
      (fun _ _ _ _ _ => pg_name (i := 1) scWho.nd rfl (Or.inl rfl))
      (fun _ _ _ _ _ => pts_one (pt_val (pe_call GM hr (by rfl) AM.g AM.fn.kp AM.bi .nil pass0 (pa_cons (pv 0) (pa_cons (pv 1) pa_nil))))) (fun _ _ _ _ _ => pv 1))), ?_⟩
    refine ⟨_, rfl, fP T hP (by decide +kernel) (pF_men b l) ⟨l, _, rfl, .inl (SqL.of hP.lst), ?_⟩⟩
    have h24 := hP.few
    have hlen : (as.map V.ref).length = b.n := by rw [List.length_map, hP.len]
    rw [hlen]
    refine ⟨_, rfl, by omega, by omega, fun D hD => ?_⟩
    rw [Int.toNat_natCast]
    refine lc_range (lo := 0) (n := b.n) (fun k H' => Same H H' ∧ H' D = some (.lst (nV ((List.range k).filter b.may)))) ⟨same_new hD, upd_same⟩ ?_ ?_
    · rintro k H1 hk ⟨s1, d1⟩
      rw [Int.zero_add]
      refine ⟨rfl, _, rfl, _, rfl, p, l, as, b, k, rfl, hP.same s1, hk, fun H2 s2 => ⟨_, rfl, ?_⟩⟩
      have d2 := s2 _ _ d1
      rw [range_filter_succ]
      refine ite2 (fun c => ?_) (fun c => ?_)
      · refine ⟨_, rfl, _, d2, ?_, ?_, ?_⟩
        · rw [nV_len]
          have h1 := len_filter_range b.may k
          exact Nat.lt_of_le_of_lt (by omega : _ ≤ 24) (by decide)
        · intro x o e
          rw [upd_ne (ne_of_none e hD)]
          exact s2 _ _ (s1 _ _ e)
        · rw [upd_same, if_pos c]
          unfold nV
          rw [List.map_append]
          rfl
      · refine ⟨s1.trans s2, ?_⟩
        rw [if_neg c, List.append_nil]
        exact d2
    · rintro H1 ⟨s1, d1⟩
      exact q H1 D s1 hD d1
end
end AG
namespace AG
open PySem PySem.Spec PyProof.Rows L2 Km499
abbrev sFirst : Stmt := top 17
abbrev sHasMissed : Stmt := top 18
abbrev sWhoMissed : Stmt := top 19
/-! ### the first year in which he may join -/
def firstY (b : Book) (i : Nat) : Nat := max (max b.year ((b.at_ i).born + b.low)) (farYear b (b.at_ i))
def lastY (b : Book) (i : Nat) : Nat := min 400 ((b.at_ i).born + b.high)
theorem when_is {b : Book} (h : WF b) {i : Nat} (hi : i < b.n) : b.when_ i = if (b.at_ i).alive = true ∧ (b.at_ i).set = none ∧ sonIn b i = false then (if firstY b i ≤ lastY b i then some (firstY b i) else none) else none := by
  unfold Book.when_
  by_cases c : (b.at_ i).alive = true ∧ (b.at_ i).set = none
  · rw [if_pos c]
    have hb := h.bo i hi
    cases hs : sonIn b i with
    | true =>
      rw [if_neg (fun z => by cases z.2.2)]
      rw [List.find?_eq_none]
      intro y _ hy
      unfold Book.fits at hy
      rw [far_at h.t1, hs] at hy
      simp at hy
    | false =>
      rw [if_pos ⟨c.1, c.2, rfl⟩]
      rw [find_from (n := b.high) (c := (b.at_ i).born) (lo := firstY b i) (hi := lastY b i) (by unfold firstY; omega) (by unfold lastY; omega)]
      intro y
      unfold Book.fits LAST
      rw [far_at h.t1, hs, Bool.eq_iff_iff]
      simp only [Bool.and_eq_true, decide_eq_true_eq, Bool.not_false, and_true]
      unfold firstY lastY
      omega
  · rw [if_neg c, if_neg (fun z => c ⟨z.1, z.2.1⟩)]
theorem nuMax3_int (a b c : Nat) : nuMax3 (.int (a : Int)) (.int (b : Int)) (.int (c : Int)) = some (.int ((max (max a b) c : Nat) : Int)) := by
  have two : ∀ x y : Nat, nuMax2 (.int (x : Int)) (.int (y : Int)) = some (.int ((max x y : Nat) : Int)) := fun x y => by
    show some (if decide ((x : Int) < (y : Int)) = true then V.int (y : Int) else V.int (x : Int)) = _
    by_cases h : x < y
    · rw [if_pos (decide_eq_true (by omega)), Nat.max_eq_right (by omega)]
    · rw [if_neg (fun z => h (by have := of_decide_eq_true z; omega)), Nat.max_eq_left (by omega)]
  unfold nuMax3
  rw [two]
  exact two _ _
section
variable {P : Program} {w : World} {K : PySem.W.Frag} {mg : Str → Option Value} {base : Heap} {CP CM : Addr}
def spFirst (CP CM : Addr) : Sp := fun vs H Q _ => ∃ p l as b i, vs = [.ref p, .int ((i : Nat) : Int)] ∧ PAt CP CM H p l as b ∧ i < b.n ∧ ∀ H', Same H H' → Q (oV (b.when_ i)) H'
theorem scFirst : FnScope ["people", "number", "man", "first", "last"] ["people", "number"] (defScope sFirst) := ⟨rfl, rfl, rfl, by decide +kernel, rfl, by decide +kernel, by decide +kernel⟩
theorem ok_first {f fO fS fY : Addr} {fd fdO fdS fdY : FuncData} (F : Fun K "first_year_to_join" "first_year_to_join" sFirst f fd) (T : TxS K mg CP CM) (AO : FnAt K mg "is_outside" sOutside fO fdO ["man"]) (AS : FnAt K mg "has_son_in_set" sSon fS fdS ["people", "number"]) (AY : FnAt K mg "year_far_from_father" sYearFar fY fdY ["people", "man"]) :
    FnOk P w K mg base CX0 2 f fd ["people", "number"] (spFirst CP CM) := by
  have GO : FnOk P w K mg base CX0 1 fO fdO ["man"] (spOutside CM) := ok_outside AO.fn T
  have GS : FnOk P w K mg base CX0 1 fS fdS ["people", "number"] (spSon CP CM) := ok_son AS.fn T
  have GY : FnOk P w K mg base CX0 1 fY fdY ["people", "man"] (spYearFar CP CM) := ok_yearFar AY.fn T
  refine F.ok scFirst (fun vs H Q E h => ?_) (fun cdv A outer s H vs Q E hr h => ?_)
  · obtain ⟨p, l, as, b, i, rfl, _⟩ := h
    rfl
  · obtain ⟨p, l, as, b, i, rfl, hP, hi, q⟩ := h
    obtain ⟨t4, c4⟩ := T.cs ("LAST_YEAR", 400) (by decide +kernel)
    refine ⟨_, pss_cons (ps_set (i := 2) scFirst.nd rfl (Or.inl rfl) (pe_ix ix_list (pe_fld (pv 0) rfl) (pv 1) (fun _ _ => rfl)))
      (pss_cons (ps_if (PW.pt (pw_or (pt_not (pt_val (pe_call GO hr (by rfl) AO.g AO.fn.kp AO.bi .nil pass0 (pa_cons (pv 2) pa_nil)))) (pw_or1 (pt_val (pe_call GS hr (by rfl) AS.g AS.fn.kp AS.bi .nil pass0 (pa_cons (pv 0) (pa_cons (pv 1) pa_nil))))))) (pss_one (ps_ret pe_non)) pss_nil)
      (pss_cons (ps_set (i := 3) scFirst.nd rfl (Or.inl rfl) (pe_callB (call_max3Nu rfl) (by rfl) T.max (by decide +kernel) (pa_cons (pe_fld (pv 0) rfl) (pa_cons (pe_op op_add (pe_fld (pv 2) rfl) (pe_fld (pv 0) rfl)) (pa_cons (pe_call GY hr (by rfl) AY.g AY.fn.kp AY.bi .nil pass0 (pa_cons (pv 0) (pa_cons (pv 2) pa_nil))) pa_nil)))))
      (pss_cons (ps_set (i := 4) scFirst.nd rfl (Or.inl rfl) (pe_callB (call_min2 rfl) (by rfl) T.min (by decide +kernel) (pa_cons (pe_glob (v := .int 400) (by rfl) c4 ⟨_, rfl⟩) (pa_cons (pe_op op_add (pe_fld (pv 2) rfl) (pe_fld (pv 0) rfl)) pa_nil))))
      (pss_one (ps_ret (pe_ifExp (pt_cmpR op_le (pv 3) (pv 4) (nomark _)) (pv 3) pe_non)))))), ?_⟩
    obtain ⟨a, ea, hM⟩ := hP.man hi
    rw [when_is hP.wf hi] at q
    refine ⟨_, rfl, fP T hP (by decide +kernel) (pF_men b l) ⟨_, rfl, l, _, _, .ref a, rfl, rfl, SqL.of hP.lst, hP.item ea, ?_⟩⟩
    refine ⟨_, rfl, a, _, rfl, hM, _, rfl, ?_⟩
    cases hou : ((b.at_ i).alive && (b.at_ i).set == none) with
    | false =>
      rw [if_neg (fun z => by rw [z.1, z.2.1] at hou; cases hou)] at q
      exact iteT (iteT (q H (Same.refl H)))
    | true =>
      rw [Bool.and_eq_true] at hou
      have hse : (b.at_ i).set = none := by simpa using hou.2
      refine iteF ⟨_, rfl, _, rfl, p, l, as, b, i, rfl, hP, fun H1 s1 => ⟨_, rfl, ?_⟩⟩
      cases hs : sonIn b i with
      | true =>
        rw [if_neg (fun z => by rw [z.2.2] at hs; cases hs)] at q
        exact iteT (q H1 s1)
      | false =>
        rw [if_pos ⟨hou.1, hse, hs⟩] at q
        have hP1 := hP.same s1
        have hM1 := hM.same s1
        refine iteF ⟨_, rfl, fP T hP1 (by decide +kernel) (pF_year b l) ?_⟩
        refine ⟨_, rfl, fM T hM1 (by decide +kernel) (mF_born _) ⟨_, rfl, fP T hP1 (by decide +kernel) (pF_low b l) ⟨_, _, rfl, rfl, ?_⟩⟩⟩
        refine ⟨_, rfl, _, rfl, p, l, as, b, a, _, rfl, hP1, hM1, fun j e => Nat.lt_trans (hP.wf.fa i j hi e) hi, ?_⟩
        refine ⟨_, _, _, .int ((firstY b i : Nat) : Int), rfl, (by
          have z := nuMax3_int b.year ((b.at_ i).born + b.low) (farYear b (b.at_ i))
          rw [Int.natCast_add] at z
          exact z), ?_⟩
        refine ⟨_, rfl, fM T hM1 (by decide +kernel) (mF_born _) ⟨_, rfl, fP T hP1 (by decide +kernel) (pF_high b l) ⟨_, _, rfl, rfl, ?_⟩⟩⟩
        refine ⟨_, _, rfl, ?_⟩
        have el : (if ((b.at_ i).born : Int) + (b.high : Int) < 400 then ((b.at_ i).born : Int) + (b.high : Int) else 400) = ((lastY b i : Nat) : Int) := by
          unfold lastY
          split <;> omega
        show gName 4 (V.int (if ((b.at_ i).born : Int) + (b.high : Int) < 400 then ((b.at_ i).born : Int) + (b.high : Int) else 400)) _ H1 _
        rw [el]
        refine ⟨_, rfl, _, rfl, _, _, rfl, rfl, _, rfl, ?_⟩
        show if decide (((firstY b i : Nat) : Int) ≤ ((lastY b i : Nat) : Int)) = true then _ else _
        by_cases hc : firstY b i ≤ lastY b i
        · rw [if_pos hc] at q
          rw [decide_eq_true (by omega : ((firstY b i : Nat) : Int) ≤ ((lastY b i : Nat) : Int))]
          exact iteT ⟨_, rfl, q H1 s1⟩
        · rw [if_neg hc] at q
          rw [decide_eq_false (by omega : ¬ ((firstY b i : Nat) : Int) ≤ ((lastY b i : Nat) : Int))]
          exact iteF (q H1 s1)
def missB (b : Book) (i : Nat) : Bool := (b.at_ i).alive && ((b.at_ i).set == none && b.when_ i == none)
def spHasMissed (CP CM : Addr) : Sp := fun vs H Q _ => ∃ p l as b i, vs = [.ref p, .int ((i : Nat) : Int)] ∧ PAt CP CM H p l as b ∧ i < b.n ∧ ∀ H', Same H H' → Q (.bl (missB b i)) H'
theorem scHasMissed : FnScope ["people", "number"] ["people", "number"] (defScope sHasMissed) := ⟨rfl, rfl, rfl, by decide +kernel, rfl, by decide +kernel, by decide +kernel⟩
theorem ok_hasMissed {f fO fF : Addr} {fd fdO fdF : FuncData} (F : Fun K "has_missed" "has_missed" sHasMissed f fd) (T : TxS K mg CP CM) (AO : FnAt K mg "is_outside" sOutside fO fdO ["man"]) (AF : FnAt K mg "first_year_to_join" sFirst fF fdF ["people", "number"])
    (GF : FnOk P w K mg base CX0 2 fF fdF ["people", "number"] (spFirst CP CM)) : FnOk P w K mg base CX0 3 f fd ["people", "number"] (spHasMissed CP CM) := by
  have GO : FnOk P w K mg base CX0 1 fO fdO ["man"] (spOutside CM) := ok_outside AO.fn T
  refine F.ok scHasMissed (fun vs H Q E h => ?_) (fun cdv A outer s H vs Q E hr h => ?_)
  · obtain ⟨p, l, as, b, i, rfl, _⟩ := h
    rfl
  · obtain ⟨p, l, as, b, i, rfl, hP, hi, q⟩ := h
    refine ⟨_, pss_one (ps_ret (pe_and (pe_call GO (hr.mono (by decide)) (by rfl) AO.g AO.fn.kp AO.bi .nil pass0 (pa_cons (pe_ix ix_list (pe_fld (pv 0) rfl) (pv 1) (fun _ _ => rfl)) pa_nil))
      (pe_one (pe_cmp (pc_isN (pe_call GF hr (by rfl) AF.g AF.fn.kp AF.bi .nil pass0 (pa_cons (pv 0) (pa_cons (pv 1) pa_nil)))) rfl)))), ?_⟩
    obtain ⟨a, ea, hM⟩ := hP.man hi
    refine ⟨_, rfl, fP T hP (by decide +kernel) (pF_men b l) ⟨_, rfl, l, _, _, .ref a, rfl, rfl, SqL.of hP.lst, hP.item ea, ?_⟩⟩
    refine ⟨a, _, rfl, hM, _, rfl, ?_⟩
    unfold missB at q
    rw [← Bool.and_assoc] at q
    cases hou : ((b.at_ i).alive && (b.at_ i).set == none) with
    | false =>
      rw [hou, Bool.false_and] at q
      exact iteF (q H (Same.refl H))
    | true =>
      rw [hou, Bool.true_and, ← oV_non] at q
      exact iteT ⟨_, rfl, _, rfl, p, l, as, b, i, rfl, hP, hi, q⟩
theorem missed_is (b : Book) : b.missed = (List.range b.n).filter (missB b) := rfl
def spWhoMissed (CP CM : Addr) : Sp := fun vs H Q _ => ∃ p l as b, vs = [.ref p] ∧ PAt CP CM H p l as b ∧ ∀ H' D, Same H H' → H D = none → H' D = some (.lst (nV (b.missed))) → Q (.ref D) H'
theorem scWhoMissed : FnScope ["people", "number"] ["people"] (defScope sWhoMissed) := ⟨rfl, rfl, rfl, by decide +kernel, rfl, by decide +kernel, by decide +kernel⟩
theorem ok_whoMissed {f fM : Addr} {fd fdM : FuncData} (F : Fun K "who_missed" "who_missed" sWhoMissed f fd) (T : TxS K mg CP CM) (AM : FnAt K mg "has_missed" sHasMissed fM fdM ["people", "number"]) (GM : FnOk P w K mg base CX0 3 fM fdM ["people", "number"] (spHasMissed CP CM)) :
    FnOk P w K mg base CX0 4 f fd ["people"] (spWhoMissed CP CM) := by
  refine F.ok scWhoMissed (fun vs H Q E h => ?_) (fun cdv A outer s H vs Q E hr h => ?_)
  · obtain ⟨p, l, as, b, rfl, _⟩ := h
    rfl
  · obtain ⟨p, l, as, b, rfl, hP, q⟩ := h
    refine ⟨_, pss_one (ps_ret (pe_lc (own := [("number", 1)]) (g := gName 1) (tt := tB (tCall (spHasMissed CP CM) [] E0 (tCons (tVar 0) (tCons (tVar 1) tNil)))) (te := tVar 1) rfl scWhoMissed.nd
      (pi_range1 (by rfl) T.range (pa_cons (pe_callB call_len_seq (by rfl) T.len PySem.boot_len (pa_cons (pe_fld (pv 0) rfl) pa_nil)) pa_nil))
      (blkOk_by (own := [("number", 1)]) (N := ["people", "number"]) (sc := defScope sWhoMissed) (by decide +kernel))
      (fun _ _ _ _ _ => pg_name (i := 1) scWhoMissed.nd rfl (Or.inl rfl))
      (fun _ _ _ _ _ => pts_one (pt_val (pe_call GM hr (by rfl) AM.g AM.fn.kp AM.bi .nil pass0 (pa_cons (pv 0) (pa_cons (pv 1) pa_nil))))) (fun _ _ _ _ _ => pv 1))), ?_⟩
    refine ⟨_, rfl, fP T hP (by decide +kernel) (pF_men b l) ⟨l, _, rfl, .inl (SqL.of hP.lst), ?_⟩⟩
    have h24 := hP.few
    have hlen : (as.map V.ref).length = b.n := by rw [List.length_map, hP.len]
    rw [hlen]
    refine ⟨_, rfl, by omega, by omega, fun D hD => ?_⟩
    rw [Int.toNat_natCast]
    refine lc_range (lo := 0) (n := b.n) (fun k H' => Same H H' ∧ H' D = some (.lst (nV ((List.range k).filter (missB b))))) ⟨same_new hD, upd_same⟩ ?_ ?_
    · rintro k H1 hk ⟨s1, d1⟩
      rw [Int.zero_add]
      refine ⟨rfl, _, rfl, _, rfl, p, l, as, b, k, rfl, hP.same s1, hk, fun H2 s2 => ⟨_, rfl, ?_⟩⟩
      have d2 := s2 _ _ d1
      rw [range_filter_succ]
      refine ite2 (fun c => ?_) (fun c => ?_)
      · refine ⟨_, rfl, _, d2, ?_, ?_, ?_⟩
        · rw [nV_len]
          have h1 := len_filter_range (missB b) k
          exact Nat.lt_of_le_of_lt (by omega : _ ≤ 24) (by decide)
        · intro x o e
          rw [upd_ne (ne_of_none e hD)]
          exact s2 _ _ (s1 _ _ e)
        · rw [upd_same, if_pos c]
          unfold nV
          rw [List.map_append]
          rfl
      · refine ⟨s1.trans s2, ?_⟩
        rw [if_neg c, List.append_nil]
        exact d2
    · rintro H1 ⟨s1, d1⟩
      exact q H1 D s1 hD d1
end
end AG
namespace AG
open PySem PySem.Spec PyProof.Rows L2 Km499
abbrev sQGrade : Stmt := top 52
abbrev sQSetIn : Stmt := top 53
abbrev sQStrength : Stmt := top 54
abbrev sQRuler : Stmt := top 55
abbrev sQSpeaker : Stmt := top 56
abbrev sQMay : Stmt := top 57
section
variable {P : Program} {w : World} {K : PySem.W.Frag} {mg : Str → Option Value} {base : Heap} {CP CM : Addr}
def ansV (a : Ans) : List V := .int a.value :: nV a.out
/-- what a question answers, in the specification's words -/
def tells (b : Book) (c : Call) : Ans := (act ⟨b, [], []⟩ c).2
/-- a question: the people, what is given; a new list of what is due, all else as it was -/
def spQ (K : PySem.W.Frag) (CP CM : Addr) (n : Nat) (c : List Nat → Call) : Sp := fun vs H Q _ => ∃ p l as b g xs, vs = [.ref p, .ref g] ∧ PAt CP CM H p l as b ∧ SqL K H g (nV xs) ∧ xs.length = n ∧
  ∀ H' D, Same H H' → H D = none → H' D = some (.lst (ansV (tells b (c xs)))) → Q (.ref D) H'
theorem fin_new {H0 H : Hp} {D : Addr} {xs v : List V} {Q : VK} (s : Same H0 H) (hD : H D = none) (q : ∀ H' D, Same H0 H' → H0 D = none → H' D = some (.lst v) → Q (.ref D) H') (e : xs = v) : Q (.ref D) (upd H D (.lst xs)) :=
  q _ D (s.trans (same_new hD)) (s.free hD) (by rw [upd_same, e])
theorem scQGrade : FnScope ["people", "given", "age_set"] ["people", "given"] (defScope sQGrade) := ⟨rfl, rfl, rfl, by decide +kernel, rfl, by decide +kernel, by decide +kernel⟩
theorem ok_qGrade {f fH fR fO : Addr} {fd fdH fdR fdO : FuncData} (F : Fun K "pp_grade" "pp_grade" sQGrade f fd) (T : TxS K mg CP CM)
    (MH : MethAt K CP "has_man" "People.has_man" sHasMan fH fdH ["self", "number"]) (MR : MethAt K CP "has_retired" "People.has_retired" sHasRetired fR fdR ["self", "age_set"]) (MO : MethAt K CP "grade_of" "People.grade_of" sGradeOf fO fdO ["self", "age_set"])
    (GR : FnOk P w K mg base CX0 4 fR fdR ["self", "age_set"] (spHasRetired CP CM)) (GO : FnOk P w K mg base CX0 3 fO fdO ["self", "age_set"] (spGradeOf CP CM)) :
    FnOk P w K mg base CX0 5 f fd ["people", "given"] (spQ K CP CM 1 fun xs => .grade (xs.getD 0 0)) := by
  have GH : FnOk P w K mg base CX0 1 fH fdH ["self", "number"] (spHasMan CP CM) := ok_hasMan MH.fn T
  refine F.ok scQGrade (fun vs H Q E h => ?_) (fun cdv A outer s H vs Q E hr h => ?_)
  · obtain ⟨p, l, as, b, g, xs, rfl, _⟩ := h
    rfl
  · obtain ⟨p, l, as, b, g, xs, rfl, hP, hS, hn, q⟩ := h
    obtain ⟨x, rfl⟩ : ∃ x, xs = [x] := List.length_eq_one_iff.mp hn
    obtain ⟨t2, c2⟩ := T.cs ("NO_SUCH_MAN", -2) (by decide +kernel)
    obtain ⟨t33, c33⟩ := T.cs ("NONE_THERE", -33) (by decide +kernel)
    have hr1 : Room 1 _ := hr.mono (by decide)
    have hr3 : Room 3 _ := hr.mono (by decide)
    refine ⟨_, pss_cons (ps_if (pt_not (pt_val (pe_meth (pv 0) T.clP MH.mt GH hr1 MH.bi .nil pass0 (pa_cons (pe_ix ix_list (pv 1) pe_int (fun _ _ => rfl)) pa_nil)))) (pss_one (ps_ret (pe_lst (pa_cons (pe_glob (v := .int (-2)) (by rfl) c2 ⟨_, rfl⟩) pa_nil)))) pss_nil)
      (pss_cons (ps_set (i := 2) scQGrade.nd rfl (Or.inl rfl) (pe_fld (pe_ix ix_list (pe_fld (pv 0) rfl) (pe_ix ix_list (pv 1) pe_int (fun _ _ => rfl)) (fun _ _ => rfl)) rfl))
      (pss_cons (ps_if (pt_cmp (pc_isN (pv 2))) (pss_one (ps_ret (pe_lst (pa_cons (pe_glob (v := .int (-33)) (by rfl) c33 ⟨_, rfl⟩) pa_nil)))) pss_nil)
      (pss_cons (ps_if (pt_val (pe_meth (pv 0) T.clP MR.mt GR hr MR.bi .nil pass0 (pa_cons (pv 2) pa_nil))) (pss_one (ps_ret (pe_lst (pa_cons pe_int (pa_cons (pv 2) (pa_cons pe_int pa_nil)))))) pss_nil)
      (pss_one (ps_ret (pe_lst (pa_cons pe_int (pa_cons (pv 2) (pa_cons (pe_meth (pv 0) T.clP MO.mt GO hr3 MO.bi .nil pass0 (pa_cons (pv 2) pa_nil)) pa_nil))))))))), ?_⟩
    refine ⟨_, rfl, cP hP (by decide +kernel) ⟨_, rfl, g, _, _, .int x, rfl, rfl, hS, rfl, p, l, as, b, x, rfl, hP, _, rfl, ?_⟩⟩
    rw [dec_lt]
    by_cases hi : x < b.n
    · rw [decide_eq_true hi]
      refine iteF ?_
      obtain ⟨a, ea, hM⟩ := hP.man hi
      refine ⟨_, rfl, fP T hP (by decide +kernel) (pF_men b l) ⟨_, rfl, g, _, _, .int x, rfl, rfl, hS, rfl, l, _, _, .ref a, rfl, rfl, SqL.of hP.lst, hP.item ea, ?_⟩⟩
      refine fM T hM (by decide +kernel) (mF_set _) ?_
      refine ⟨_, rfl, _, rfl, ?_⟩
      have hno : b.no x = false := decide_eq_false (by omega)
      cases e : (b.at_ x).set with
      | none =>
        refine iteT ⟨(by show 1 ≤ sizeLine; decide), fun D hD => fin_new (Same.refl H) hD q ?_⟩
        simp [tells, act, ansV, only, nV, hno, e]
      | some z =>
        refine iteF ⟨_, rfl, cP hP (by decide +kernel) ⟨_, rfl, p, l, as, b, _, rfl, hP, _, rfl, ?_⟩⟩
        have hz := hP.wf.se x z hi e
        by_cases hg : b.newest b.year - z < b.grades
        · rw [decide_eq_true (by omega : ((b.newest b.year : Nat) : Int) - (z : Int) < (b.grades : Int))]
          refine iteF ⟨_, rfl, _, rfl, cP hP (by decide +kernel) ⟨_, rfl, p, l, as, b, _, rfl, hP, (by show 3 ≤ sizeLine; decide), fun D hD => fin_new (Same.refl H) hD q ?_⟩⟩
          have e2 : ((b.newest b.year : Nat) : Int) - (z : Int) = ((b.newest b.year - z : Nat) : Int) := by omega
          rw [e2]
          simp [tells, act, ansV, nV, hno, e, Book.gradeOf, hz, hg, oV]
        · rw [decide_eq_false (by omega : ¬ ((b.newest b.year : Nat) : Int) - (z : Int) < (b.grades : Int))]
          refine iteT ⟨_, rfl, (by show 3 ≤ sizeLine; decide), fun D hD => fin_new (Same.refl H) hD q ?_⟩
          simp [tells, act, ansV, nV, hno, e, Book.gradeOf, hz, hg, oV]
    · rw [decide_eq_false hi]
      refine iteT ⟨(by show 1 ≤ sizeLine; decide), fun D hD => fin_new (Same.refl H) hD q ?_⟩
      have hno : b.no x = true := decide_eq_true (by omega)
      simp [tells, act, ansV, only, nV, hno]
theorem living_lt {b : Book} {s i : Nat} (h : i ∈ b.living s) : i < b.n := by
  rw [living_eq] at h
  exact List.mem_range.mp (List.mem_filter.mp h).1
theorem living_nd (b : Book) (s : Nat) : (b.living s).Nodup := by
  rw [living_eq]
  exact List.nodup_range.filter _
theorem asSet_is (b : Book) (l : List Nat) : asSet l = ansV (b.some_ l) := rfl
theorem setOf_is {b : Book} {g : Nat} (h : g < b.grades) : b.setOf g = if g ≤ b.newest b.year then some (b.newest b.year - g) else none := by
  unfold Book.setOf
  by_cases e : g ≤ b.newest b.year
  · rw [if_pos ⟨e, h⟩, if_pos e]
  · rw [if_neg (fun z => e z.1), if_neg e]
theorem scQSetIn : FnScope ["people", "given", "age_set"] ["people", "given"] (defScope sQSetIn) := ⟨rfl, rfl, rfl, by decide +kernel, rfl, by decide +kernel, by decide +kernel⟩
theorem ok_qSetIn {f fG fS fN : Addr} {fd fdG fdS fdN : FuncData} (F : Fun K "pp_set_in" "pp_set_in" sQSetIn f fd) (T : TxS K mg CP CM)
    (MG : MethAt K CP "has_grade" "People.has_grade" sHasGrade fG fdG ["self", "grade"]) (MS : MethAt K CP "set_in" "People.set_in" sSetIn fS fdS ["self", "grade"]) (MN : MethAt K CP "name_of" "People.name_of" sNameOf fN fdN ["self", "age_set"])
    (GS : FnOk P w K mg base CX0 3 fS fdS ["self", "grade"] (spSetIn CP CM)) :
    FnOk P w K mg base CX0 4 f fd ["people", "given"] (spQ K CP CM 1 fun xs => .setIn (xs.getD 0 0)) := by
  have GG : FnOk P w K mg base CX0 1 fG fdG ["self", "grade"] (spHasGrade CP CM) := ok_hasGrade MG.fn T
  have GN : FnOk P w K mg base CX0 1 fN fdN ["self", "age_set"] (spNameOf CP CM) := ok_nameOf MN.fn T
  refine F.ok scQSetIn (fun vs H Q E h => ?_) (fun cdv A outer s H vs Q E hr h => ?_)
  · obtain ⟨p, l, as, b, g, xs, rfl, _⟩ := h
    rfl
  · obtain ⟨p, l, as, b, g, xs, rfl, hP, hS, hn, q⟩ := h
    obtain ⟨x, rfl⟩ : ∃ x, xs = [x] := List.length_eq_one_iff.mp hn
    obtain ⟨t22, c22⟩ := T.cs ("OUT_OF_BOUNDS", -22) (by decide +kernel)
    obtain ⟨t33, c33⟩ := T.cs ("NONE_THERE", -33) (by decide +kernel)
    have hr1 : Room 1 _ := hr.mono (by decide)
    refine ⟨_, pss_cons (ps_if (pt_not (pt_val (pe_meth (pv 0) T.clP MG.mt GG hr1 MG.bi .nil pass0 (pa_cons (pe_ix ix_list (pv 1) pe_int (fun _ _ => rfl)) pa_nil)))) (pss_one (ps_ret (pe_lst (pa_cons (pe_glob (v := .int (-22)) (by rfl) c22 ⟨_, rfl⟩) pa_nil)))) pss_nil)
      (pss_cons (ps_set (i := 2) scQSetIn.nd rfl (Or.inl rfl) (pe_meth (pv 0) T.clP MS.mt GS hr MS.bi .nil pass0 (pa_cons (pe_ix ix_list (pv 1) pe_int (fun _ _ => rfl)) pa_nil)))
      (pss_cons (ps_if (pt_cmp (pc_isN (pv 2))) (pss_one (ps_ret (pe_lst (pa_cons (pe_glob (v := .int (-33)) (by rfl) c33 ⟨_, rfl⟩) pa_nil)))) pss_nil)
      (pss_one (ps_ret (pe_lst (pa_cons (pv 2) (pa_cons (pe_meth (pv 0) T.clP MN.mt GN hr1 MN.bi .nil pass0 (pa_cons (pv 2) pa_nil)) pa_nil))))))), ?_⟩
    refine ⟨_, rfl, cP hP (by decide +kernel) ⟨_, rfl, g, _, _, .int x, rfl, rfl, hS, rfl, p, l, as, b, x, rfl, hP, _, rfl, ?_⟩⟩
    rw [dec_lt]
    by_cases hg : x < b.grades
    · rw [decide_eq_true hg]
      refine iteF ?_
      have hng : ¬ b.grades ≤ x := by omega
      refine ⟨_, rfl, cP hP (by decide +kernel) ⟨_, rfl, g, _, _, .int x, rfl, rfl, hS, rfl, p, l, as, b, x, rfl, hP, ?_⟩⟩
      refine ⟨_, rfl, _, rfl, ?_⟩
      by_cases hx : x ≤ b.newest b.year
      · rw [if_pos hx]
        refine iteF ⟨_, rfl, _, rfl, cP hP (by decide +kernel) ⟨_, rfl, p, l, as, b, _, rfl, hP, (by show 2 ≤ sizeLine; decide), fun D hD => fin_new (Same.refl H) hD q ?_⟩⟩
        simp [tells, act, ansV, nV, hng, setOf_is hg, hx, oV, n2i]
      · rw [if_neg hx]
        refine iteT ⟨(by show 1 ≤ sizeLine; decide), fun D hD => fin_new (Same.refl H) hD q ?_⟩
        simp [tells, act, ansV, nV, hng, setOf_is hg, hx, only]
    · rw [decide_eq_false hg]
      refine iteT ⟨(by show 1 ≤ sizeLine; decide), fun D hD => fin_new (Same.refl H) hD q ?_⟩
      have hng : b.grades ≤ x := by omega
      simp [tells, act, ansV, only, nV, hng]
theorem scQStrength : FnScope ["people", "given", "age_set"] ["people", "given"] (defScope sQStrength) := ⟨rfl, rfl, rfl, by decide +kernel, rfl, by decide +kernel, by decide +kernel⟩
theorem ok_qStrength {f fG fS fL fA : Addr} {fd fdG fdS fdL fdA : FuncData} (F : Fun K "pp_strength" "pp_strength" sQStrength f fd) (T : TxS K mg CP CM)
    (MG : MethAt K CP "has_grade" "People.has_grade" sHasGrade fG fdG ["self", "grade"]) (MS : MethAt K CP "set_in" "People.set_in" sSetIn fS fdS ["self", "grade"]) (ML : MethAt K CP "living_in" "People.living_in" sLivingIn fL fdL ["self", "age_set"]) (AA : FnAt K mg "counted_and_together" sAsSet fA fdA ["numbers"])
    (GS : FnOk P w K mg base CX0 3 fS fdS ["self", "grade"] (spSetIn CP CM)) :
    FnOk P w K mg base CX0 4 f fd ["people", "given"] (spQ K CP CM 1 fun xs => .strength (xs.getD 0 0)) := by
  have GG : FnOk P w K mg base CX0 1 fG fdG ["self", "grade"] (spHasGrade CP CM) := ok_hasGrade MG.fn T
  have GL : FnOk P w K mg base CX0 1 fL fdL ["self", "age_set"] (spLivingIn CP CM) := ok_livingIn ML.fn T
  have GA : FnOk P w K mg base CX0 1 fA fdA ["numbers"] (spAsSet K) := ok_asSet AA.fn T
  refine F.ok scQStrength (fun vs H Q E h => ?_) (fun cdv A outer s H vs Q E hr h => ?_)
  · obtain ⟨p, l, as, b, g, xs, rfl, _⟩ := h
    rfl
  · obtain ⟨p, l, as, b, g, xs, rfl, hP, hS, hn, q⟩ := h
    obtain ⟨x, rfl⟩ : ∃ x, xs = [x] := List.length_eq_one_iff.mp hn
    obtain ⟨t22, c22⟩ := T.cs ("OUT_OF_BOUNDS", -22) (by decide +kernel)
    obtain ⟨t33, c33⟩ := T.cs ("NONE_THERE", -33) (by decide +kernel)
    have hr1 : Room 1 _ := hr.mono (by decide)
    refine ⟨_, pss_cons (ps_if (pt_not (pt_val (pe_meth (pv 0) T.clP MG.mt GG hr1 MG.bi .nil pass0 (pa_cons (pe_ix ix_list (pv 1) pe_int (fun _ _ => rfl)) pa_nil)))) (pss_one (ps_ret (pe_lst (pa_cons (pe_glob (v := .int (-22)) (by rfl) c22 ⟨_, rfl⟩) pa_nil)))) pss_nil)
      (pss_cons (ps_set (i := 2) scQStrength.nd rfl (Or.inl rfl) (pe_meth (pv 0) T.clP MS.mt GS hr MS.bi .nil pass0 (pa_cons (pe_ix ix_list (pv 1) pe_int (fun _ _ => rfl)) pa_nil)))
      (pss_cons (ps_if (pt_cmp (pc_isN (pv 2))) (pss_one (ps_ret (pe_lst (pa_cons (pe_glob (v := .int (-33)) (by rfl) c33 ⟨_, rfl⟩) pa_nil)))) pss_nil)
      (pss_one (ps_ret (pe_call GA hr1 (by rfl) AA.g AA.fn.kp AA.bi .nil pass0 (pa_cons (pe_meth (pv 0) T.clP ML.mt GL hr1 ML.bi .nil pass0 (pa_cons (pv 2) pa_nil)) pa_nil)))))), ?_⟩
    refine ⟨_, rfl, cP hP (by decide +kernel) ⟨_, rfl, g, _, _, .int x, rfl, rfl, hS, rfl, p, l, as, b, x, rfl, hP, _, rfl, ?_⟩⟩
    rw [dec_lt]
    by_cases hg : x < b.grades
    · rw [decide_eq_true hg]
      refine iteF ?_
      have hng : ¬ b.grades ≤ x := by omega
      refine ⟨_, rfl, cP hP (by decide +kernel) ⟨_, rfl, g, _, _, .int x, rfl, rfl, hS, rfl, p, l, as, b, x, rfl, hP, ?_⟩⟩
      refine ⟨_, rfl, _, rfl, ?_⟩
      by_cases hx : x ≤ b.newest b.year
      · rw [if_pos hx]
        refine iteF ⟨_, rfl, cP hP (by decide +kernel) ⟨_, rfl, p, l, as, b, _, rfl, hP, fun H1 D s1 hD d1 => ?_⟩⟩
        refine ⟨D, _, rfl, SqL.of d1, fun i hi => Nat.lt_of_lt_of_le (living_lt hi) hP.few, fun H2 D2 s2 hD2 d2 => q H2 D2 (s1.trans s2) (s1.free hD2) ?_⟩
        rw [d2, asSet_is b]
        simp [tells, act, hng, setOf_is hg, hx]
      · rw [if_neg hx]
        refine iteT ⟨(by show 1 ≤ sizeLine; decide), fun D hD => fin_new (Same.refl H) hD q ?_⟩
        simp [tells, act, ansV, nV, hng, setOf_is hg, hx, only]
    · rw [decide_eq_false hg]
      refine iteT ⟨(by show 1 ≤ sizeLine; decide), fun D hD => fin_new (Same.refl H) hD q ?_⟩
      have hng : b.grades ≤ x := by omega
      simp [tells, act, ansV, only, nV, hng]
end
end AG
namespace AG
open PySem PySem.Spec PyProof.Rows L2 Km499
section
variable {P : Program} {w : World} {K : PySem.W.Frag} {mg : Str → Option Value} {base : Heap} {CP CM : Addr}
theorem scQRuler : FnScope ["people", "given", "age_set", "living"] ["people", "given"] (defScope sQRuler) := ⟨rfl, rfl, rfl, by decide +kernel, rfl, by decide +kernel, by decide +kernel⟩
theorem ok_qRuler {f fS fL fN fY : Addr} {fd fdS fdL fdN fdY : FuncData} (F : Fun K "pp_ruler" "pp_ruler" sQRuler f fd) (T : TxS K mg CP CM)
    (MS : MethAt K CP "set_in" "People.set_in" sSetIn fS fdS ["self", "grade"]) (ML : MethAt K CP "living_in" "People.living_in" sLivingIn fL fdL ["self", "age_set"]) (MN : MethAt K CP "name_of" "People.name_of" sNameOf fN fdN ["self", "age_set"]) (MY : MethAt K CP "years_left" "People.years_left" sYearsLeft fY fdY ["self"])
    (GS : FnOk P w K mg base CX0 3 fS fdS ["self", "grade"] (spSetIn CP CM)) :
    FnOk P w K mg base CX0 4 f fd ["people", "given"] (spQ K CP CM 0 fun _ => .ruler) := by
  have GL : FnOk P w K mg base CX0 1 fL fdL ["self", "age_set"] (spLivingIn CP CM) := ok_livingIn ML.fn T
  have GN : FnOk P w K mg base CX0 1 fN fdN ["self", "age_set"] (spNameOf CP CM) := ok_nameOf MN.fn T
  have GY : FnOk P w K mg base CX0 1 fY fdY ["self"] (spYearsLeft CP CM) := ok_yearsLeft MY.fn T
  refine F.ok scQRuler (fun vs H Q E h => ?_) (fun cdv A outer s H vs Q E hr h => ?_)
  · obtain ⟨p, l, as, b, g, xs, rfl, _⟩ := h
    rfl
  · obtain ⟨p, l, as, b, g, xs, rfl, hP, hS, hn, q⟩ := h
    obtain ⟨t33, c33⟩ := T.cs ("NONE_THERE", -33) (by decide +kernel)
    have hr1 : Room 1 _ := hr.mono (by decide)
    refine ⟨_, pss_cons (ps_set (i := 2) scQRuler.nd rfl (Or.inl rfl) (pe_meth (pv 0) T.clP MS.mt GS hr MS.bi .nil pass0 (pa_cons (pe_fld (pv 0) rfl) pa_nil)))
      (pss_cons (ps_if (pt_cmp (pc_isN (pv 2))) (pss_one (ps_ret (pe_lst (pa_cons (pe_glob (v := .int (-33)) (by rfl) c33 ⟨_, rfl⟩) pa_nil)))) pss_nil)
      (pss_cons (ps_set (i := 3) scQRuler.nd rfl (Or.inl rfl) (pe_callB call_len_seq (by rfl) T.len PySem.boot_len (pa_cons (pe_meth (pv 0) T.clP ML.mt GL hr1 ML.bi .nil pass0 (pa_cons (pv 2) pa_nil)) pa_nil)))
      (pss_one (ps_ret (pe_lst (pa_cons (pv 2) (pa_cons (pe_meth (pv 0) T.clP MN.mt GN hr1 MN.bi .nil pass0 (pa_cons (pv 2) pa_nil)) (pa_cons (pv 3) (pa_cons (pe_meth0 (pv 0) T.clP MY.mt GY hr1 MY.bi .nil pass0) pa_nil))))))))), ?_⟩
    refine ⟨_, rfl, cP hP (by decide +kernel) ⟨_, rfl, fP T hP (by decide +kernel) (pF_office b l) ⟨p, l, as, b, b.rules, rfl, hP, ?_⟩⟩⟩
    refine ⟨_, rfl, _, rfl, ?_⟩
    have hset := setOf_is hP.wf.ru
    by_cases hx : b.rules ≤ b.newest b.year
    · rw [if_pos hx] at hset ⊢
      refine iteF ⟨_, rfl, cP hP (by decide +kernel) ⟨_, rfl, p, l, as, b, _, rfl, hP, fun H1 D s1 hD d1 => ?_⟩⟩
      have hP1 := hP.same s1
      refine ⟨D, _, rfl, .inl (SqL.of d1), ?_⟩
      refine ⟨_, rfl, _, rfl, cP hP1 (by decide +kernel) ⟨_, rfl, p, l, as, b, _, rfl, hP1, ?_⟩⟩
      refine ⟨_, rfl, _, rfl, cP hP1 (by decide +kernel) ⟨p, l, as, b, rfl, hP1, (by show 4 ≤ sizeLine; decide), fun D2 hD2 => fin_new s1 hD2 q ?_⟩⟩
      rw [nV_len]
      simp [tells, act, ansV, nV, Book.ruler, hset, oV, n2i]
    · rw [if_neg hx] at hset ⊢
      refine iteT ⟨(by show 1 ≤ sizeLine; decide), fun D hD => fin_new (Same.refl H) hD q ?_⟩
      simp [tells, act, ansV, nV, Book.ruler, hset, only]
theorem scQMay : FnScope ["people", "given"] ["people", "given"] (defScope sQMay) := ⟨rfl, rfl, rfl, by decide +kernel, rfl, by decide +kernel, by decide +kernel⟩
theorem ok_qMay {f fW fA : Addr} {fd fdW fdA : FuncData} (F : Fun K "pp_may" "pp_may" sQMay f fd) (T : TxS K mg CP CM) (AW : FnAt K mg "who_may_join" sWho fW fdW ["people"]) (AA : FnAt K mg "counted_and_together" sAsSet fA fdA ["numbers"])
    (GW : FnOk P w K mg base CX0 5 fW fdW ["people"] (spWho CP CM)) :
    FnOk P w K mg base CX0 6 f fd ["people", "given"] (spQ K CP CM 0 fun _ => .may) := by
  have GA : FnOk P w K mg base CX0 1 fA fdA ["numbers"] (spAsSet K) := ok_asSet AA.fn T
  refine F.ok scQMay (fun vs H Q E h => ?_) (fun cdv A outer s H vs Q E hr h => ?_)
  · obtain ⟨p, l, as, b, g, xs, rfl, _⟩ := h
    rfl
  · obtain ⟨p, l, as, b, g, xs, rfl, hP, hS, hn, q⟩ := h
    refine ⟨_, pss_one (ps_ret (pe_call GA (hr.mono (by decide)) (by rfl) AA.g AA.fn.kp AA.bi .nil pass0 (pa_cons (pe_call GW hr (by rfl) AW.g AW.fn.kp AW.bi .nil pass0 (pa_cons (pv 0) pa_nil)) pa_nil))), ?_⟩
    refine ⟨_, rfl, p, l, as, b, rfl, hP, fun H1 D s1 hD d1 => ?_⟩
    refine ⟨D, _, rfl, SqL.of d1, fun i hi => Nat.lt_of_lt_of_le (List.mem_range.mp (List.mem_filter.mp hi).1) hP.few, fun H2 D2 s2 hD2 d2 => q H2 D2 (s1.trans s2) (s1.free hD2) ?_⟩
    rw [d2, asSet_is b]
    rfl
end
end AG
namespace AG
open PySem PySem.Spec PyProof.Rows L2 Km499
abbrev sQMissed : Stmt := top 58
abbrev sQWhen : Stmt := top 59
abbrev sQAge : Stmt := top 60
abbrev sQSenior : Stmt := top 61
abbrev sIsTurned : Stmt := top 62
abbrev sQTurned : Stmt := top 63
section
variable {P : Program} {w : World} {K : PySem.W.Frag} {mg : Str → Option Value} {base : Heap} {CP CM : Addr}
theorem scQMissed : FnScope ["people", "given"] ["people", "given"] (defScope sQMissed) := ⟨rfl, rfl, rfl, by decide +kernel, rfl, by decide +kernel, by decide +kernel⟩
theorem ok_qMissed {f fW fA : Addr} {fd fdW fdA : FuncData} (F : Fun K "pp_missed" "pp_missed" sQMissed f fd) (T : TxS K mg CP CM) (AW : FnAt K mg "who_missed" sWhoMissed fW fdW ["people"]) (AA : FnAt K mg "counted_and_together" sAsSet fA fdA ["numbers"])
    (GW : FnOk P w K mg base CX0 4 fW fdW ["people"] (spWhoMissed CP CM)) :
    FnOk P w K mg base CX0 5 f fd ["people", "given"] (spQ K CP CM 0 fun _ => .missed) := by
  have GA : FnOk P w K mg base CX0 1 fA fdA ["numbers"] (spAsSet K) := ok_asSet AA.fn T
  refine F.ok scQMissed (fun vs H Q E h => ?_) (fun cdv A outer s H vs Q E hr h => ?_)
  · obtain ⟨p, l, as, b, g, xs, rfl, _⟩ := h
    rfl
  · obtain ⟨p, l, as, b, g, xs, rfl, hP, hS, hn, q⟩ := h
    refine ⟨_, pss_one (ps_ret (pe_call GA (hr.mono (by decide)) (by rfl) AA.g AA.fn.kp AA.bi .nil pass0 (pa_cons (pe_call GW hr (by rfl) AW.g AW.fn.kp AW.bi .nil pass0 (pa_cons (pv 0) pa_nil)) pa_nil))), ?_⟩
    refine ⟨_, rfl, p, l, as, b, rfl, hP, fun H1 D s1 hD d1 => ?_⟩
    refine ⟨D, _, rfl, SqL.of d1, fun i hi => Nat.lt_of_lt_of_le (List.mem_range.mp (List.mem_filter.mp hi).1) hP.few, fun H2 D2 s2 hD2 d2 => q H2 D2 (s1.trans s2) (s1.free hD2) ?_⟩
    rw [d2, asSet_is b]
    rfl
theorem scQWhen : FnScope ["people", "given", "year"] ["people", "given"] (defScope sQWhen) := ⟨rfl, rfl, rfl, by decide +kernel, rfl, by decide +kernel, by decide +kernel⟩
theorem ok_qWhen {f fH fI fF : Addr} {fd fdH fdI fdF : FuncData} (F : Fun K "pp_when" "pp_when" sQWhen f fd) (T : TxS K mg CP CM)
    (MH : MethAt K CP "has_man" "People.has_man" sHasMan fH fdH ["self", "number"]) (MI : MethAt K CP "newest_in" "People.newest_in" sNewestIn fI fdI ["self", "year"]) (AF : FnAt K mg "first_year_to_join" sFirst fF fdF ["people", "number"])
    (GF : FnOk P w K mg base CX0 2 fF fdF ["people", "number"] (spFirst CP CM)) :
    FnOk P w K mg base CX0 3 f fd ["people", "given"] (spQ K CP CM 1 fun xs => .when_ (xs.getD 0 0)) := by
  have GH : FnOk P w K mg base CX0 1 fH fdH ["self", "number"] (spHasMan CP CM) := ok_hasMan MH.fn T
  have GI : FnOk P w K mg base CX0 1 fI fdI ["self", "year"] (spNewestIn CP CM) := ok_newestIn MI.fn T
  refine F.ok scQWhen (fun vs H Q E h => ?_) (fun cdv A outer s H vs Q E hr h => ?_)
  · obtain ⟨p, l, as, b, g, xs, rfl, _⟩ := h
    rfl
  · obtain ⟨p, l, as, b, g, xs, rfl, hP, hS, hn, q⟩ := h
    obtain ⟨x, rfl⟩ : ∃ x, xs = [x] := List.length_eq_one_iff.mp hn
    obtain ⟨t2, c2⟩ := T.cs ("NO_SUCH_MAN", -2) (by decide +kernel)
    obtain ⟨t33, c33⟩ := T.cs ("NONE_THERE", -33) (by decide +kernel)
    have hr1 : Room 1 _ := hr.mono (by decide)
    refine ⟨_, pss_cons (ps_if (pt_not (pt_val (pe_meth (pv 0) T.clP MH.mt GH hr1 MH.bi .nil pass0 (pa_cons (pe_ix ix_list (pv 1) pe_int (fun _ _ => rfl)) pa_nil)))) (pss_one (ps_ret (pe_lst (pa_cons (pe_glob (v := .int (-2)) (by rfl) c2 ⟨_, rfl⟩) pa_nil)))) pss_nil)
      (pss_cons (ps_set (i := 2) scQWhen.nd rfl (Or.inl rfl) (pe_call GF hr (by rfl) AF.g AF.fn.kp AF.bi .nil pass0 (pa_cons (pv 0) (pa_cons (pe_ix ix_list (pv 1) pe_int (fun _ _ => rfl)) pa_nil))))
      (pss_cons (ps_if (pt_cmp (pc_isN (pv 2))) (pss_one (ps_ret (pe_lst (pa_cons (pe_glob (v := .int (-33)) (by rfl) c33 ⟨_, rfl⟩) pa_nil)))) pss_nil)
      (pss_one (ps_ret (pe_lst (pa_cons (pv 2) (pa_cons (pe_meth (pv 0) T.clP MI.mt GI hr1 MI.bi .nil pass0 (pa_cons (pv 2) pa_nil)) pa_nil))))))), ?_⟩
    refine ⟨_, rfl, cP hP (by decide +kernel) ⟨_, rfl, g, _, _, .int x, rfl, rfl, hS, rfl, p, l, as, b, x, rfl, hP, _, rfl, ?_⟩⟩
    rw [dec_lt]
    by_cases hi : x < b.n
    · rw [decide_eq_true hi]
      have hno : b.no x = false := decide_eq_false (by omega)
      refine iteF ⟨_, rfl, _, rfl, g, _, _, .int x, rfl, rfl, hS, rfl, p, l, as, b, x, rfl, hP, hi, fun H1 s1 => ?_⟩
      have hP1 := hP.same s1
      refine ⟨_, rfl, _, rfl, ?_⟩
      cases e : b.when_ x with
      | none =>
        refine iteT ⟨(by show 1 ≤ sizeLine; decide), fun D hD => fin_new s1 hD q ?_⟩
        simp [tells, act, ansV, only, nV, hno, e]
      | some y =>
        refine iteF ⟨_, rfl, _, rfl, cP hP1 (by decide +kernel) ⟨_, rfl, p, l, as, b, y, rfl, hP1, (by show 2 ≤ sizeLine; decide), fun D hD => fin_new s1 hD q ?_⟩⟩
        simp [tells, act, ansV, nV, hno, e, oV, n2i]
    · rw [decide_eq_false hi]
      refine iteT ⟨(by show 1 ≤ sizeLine; decide), fun D hD => fin_new (Same.refl H) hD q ?_⟩
      have hno : b.no x = true := decide_eq_true (by omega)
      simp [tells, act, ansV, only, nV, hno]
theorem scQAge : FnScope ["people", "given", "man"] ["people", "given"] (defScope sQAge) := ⟨rfl, rfl, rfl, by decide +kernel, rfl, by decide +kernel, by decide +kernel⟩
theorem ok_qAge {f fH fA : Addr} {fd fdH fdA : FuncData} (F : Fun K "pp_age" "pp_age" sQAge f fd) (T : TxS K mg CP CM)
    (MH : MethAt K CP "has_man" "People.has_man" sHasMan fH fdH ["self", "number"]) (MA : MethAt K CP "age_of" "People.age_of" sAgeOf fA fdA ["self", "man"]) :
    FnOk P w K mg base CX0 2 f fd ["people", "given"] (spQ K CP CM 1 fun xs => .age (xs.getD 0 0)) := by
  have GH : FnOk P w K mg base CX0 1 fH fdH ["self", "number"] (spHasMan CP CM) := ok_hasMan MH.fn T
  have GA : FnOk P w K mg base CX0 1 fA fdA ["self", "man"] (spAgeOf CP CM) := ok_ageOf MA.fn T
  refine F.ok scQAge (fun vs H Q E h => ?_) (fun cdv A outer s H vs Q E hr h => ?_)
  · obtain ⟨p, l, as, b, g, xs, rfl, _⟩ := h
    rfl
  · obtain ⟨p, l, as, b, g, xs, rfl, hP, hS, hn, q⟩ := h
    obtain ⟨x, rfl⟩ : ∃ x, xs = [x] := List.length_eq_one_iff.mp hn
    obtain ⟨t2, c2⟩ := T.cs ("NO_SUCH_MAN", -2) (by decide +kernel)
    refine ⟨_, pss_cons (ps_if (pt_not (pt_val (pe_meth (pv 0) T.clP MH.mt GH hr MH.bi .nil pass0 (pa_cons (pe_ix ix_list (pv 1) pe_int (fun _ _ => rfl)) pa_nil)))) (pss_one (ps_ret (pe_lst (pa_cons (pe_glob (v := .int (-2)) (by rfl) c2 ⟨_, rfl⟩) pa_nil)))) pss_nil)
      (pss_cons (ps_set (i := 2) scQAge.nd rfl (Or.inl rfl) (pe_ix ix_list (pe_fld (pv 0) rfl) (pe_ix ix_list (pv 1) pe_int (fun _ _ => rfl)) (fun _ _ => rfl)))
      (pss_one (ps_ret (pe_lst (pa_cons (pe_meth (pv 0) T.clP MA.mt GA hr MA.bi .nil pass0 (pa_cons (pv 2) pa_nil)) (pa_cons (pe_ifExp (pt_val (pe_fld (pv 2) rfl)) pe_int pe_int) pa_nil)))))), ?_⟩
    refine ⟨_, rfl, cP hP (by decide +kernel) ⟨_, rfl, g, _, _, .int x, rfl, rfl, hS, rfl, p, l, as, b, x, rfl, hP, _, rfl, ?_⟩⟩
    rw [dec_lt]
    by_cases hi : x < b.n
    · rw [decide_eq_true hi]
      have hno : b.no x = false := decide_eq_false (by omega)
      obtain ⟨a, ea, hM⟩ := hP.man hi
      refine iteF ⟨_, rfl, fP T hP (by decide +kernel) (pF_men b l) ⟨_, rfl, g, _, _, .int x, rfl, rfl, hS, rfl, l, _, _, .ref a, rfl, rfl, SqL.of hP.lst, hP.item ea, ?_⟩⟩
      refine ⟨_, rfl, cP hP (by decide +kernel) ⟨_, rfl, p, l, as, b, a, _, rfl, hP, hM, ?_⟩⟩
      refine ⟨_, rfl, fM T hM (by decide +kernel) (mF_lives _) ⟨_, rfl, ?_⟩⟩
      have hb := hP.wf.bo x hi
      have e5 : ((b.year : Int) - ((b.at_ x).born : Int)) = ((b.age x : Nat) : Int) := by
        unfold Book.age
        omega
      rw [e5]
      cases hal : (b.at_ x).alive with
      | true =>
        refine iteT ⟨(by show 2 ≤ sizeLine; decide), fun D hD => fin_new (Same.refl H) hD q ?_⟩
        simp [tells, act, ansV, nV, hno, hal, n2i]
      | false =>
        refine iteF ⟨(by show 2 ≤ sizeLine; decide), fun D hD => fin_new (Same.refl H) hD q ?_⟩
        simp [tells, act, ansV, nV, hno, hal, n2i]
    · rw [decide_eq_false hi]
      refine iteT ⟨(by show 1 ≤ sizeLine; decide), fun D hD => fin_new (Same.refl H) hD q ?_⟩
      have hno : b.no x = true := decide_eq_true (by omega)
      simp [tells, act, ansV, only, nV, hno]
theorem scQSenior : FnScope ["people", "given", "one", "other"] ["people", "given"] (defScope sQSenior) := ⟨rfl, rfl, rfl, by decide +kernel, rfl, by decide +kernel, by decide +kernel⟩
theorem ok_qSenior {f fH : Addr} {fd fdH : FuncData} (F : Fun K "pp_senior" "pp_senior" sQSenior f fd) (T : TxS K mg CP CM)
    (MH : MethAt K CP "has_man" "People.has_man" sHasMan fH fdH ["self", "number"]) :
    FnOk P w K mg base CX0 2 f fd ["people", "given"] (spQ K CP CM 2 fun xs => .senior (xs.getD 0 0) (xs.getD 1 0)) := by
  have GH : FnOk P w K mg base CX0 1 fH fdH ["self", "number"] (spHasMan CP CM) := ok_hasMan MH.fn T
  refine F.ok scQSenior (fun vs H Q E h => ?_) (fun cdv A outer s H vs Q E hr h => ?_)
  · obtain ⟨p, l, as, b, g, xs, rfl, _⟩ := h
    rfl
  · obtain ⟨p, l, as, b, g, xs, rfl, hP, hS, hn, q⟩ := h
    obtain ⟨x, y, rfl⟩ : ∃ x y, xs = [x, y] := by
      match xs, hn with
      | [x, y], _ => exact ⟨x, y, rfl⟩
    obtain ⟨t2, c2⟩ := T.cs ("NO_SUCH_MAN", -2) (by decide +kernel)
    obtain ⟨t33, c33⟩ := T.cs ("NONE_THERE", -33) (by decide +kernel)
    refine ⟨_, pss_cons (ps_if (PW.pt (pw_or (pt_not (pt_val (pe_meth (pv 0) T.clP MH.mt GH hr MH.bi .nil pass0 (pa_cons (pe_ix ix_list (pv 1) pe_int (fun _ _ => rfl)) pa_nil)))) (pw_or1 (pt_not (pt_val (pe_meth (pv 0) T.clP MH.mt GH hr MH.bi .nil pass0 (pa_cons (pe_ix ix_list (pv 1) pe_int (fun _ _ => rfl)) pa_nil))))))) (pss_one (ps_ret (pe_lst (pa_cons (pe_glob (v := .int (-2)) (by rfl) c2 ⟨_, rfl⟩) pa_nil)))) pss_nil)
      (pss_cons (ps_set (i := 2) scQSenior.nd rfl (Or.inl rfl) (pe_fld (pe_ix ix_list (pe_fld (pv 0) rfl) (pe_ix ix_list (pv 1) pe_int (fun _ _ => rfl)) (fun _ _ => rfl)) rfl))
      (pss_cons (ps_set (i := 3) scQSenior.nd rfl (Or.inl rfl) (pe_fld (pe_ix ix_list (pe_fld (pv 0) rfl) (pe_ix ix_list (pv 1) pe_int (fun _ _ => rfl)) (fun _ _ => rfl)) rfl))
      (pss_cons (ps_if (PW.pt (pw_or (pt_cmp (pc_isN (pv 2))) (pw_or1 (pt_cmp (pc_isN (pv 3)))))) (pss_one (ps_ret (pe_lst (pa_cons (pe_glob (v := .int (-33)) (by rfl) c33 ⟨_, rfl⟩) pa_nil)))) pss_nil)
      (pss_cons (ps_if (pt_cmpR op_eq (pv 2) (pv 3) (nomark _)) (pss_one (ps_ret (pe_lst (pa_cons pe_int pa_nil)))) pss_nil)
      (pss_one (ps_ret (pe_lst (pa_cons (pe_ifExp (pt_cmpR op_lt (pv 2) (pv 3) (nomark _)) pe_int pe_int) pa_nil)))))))), ?_⟩
    refine ⟨_, rfl, cP hP (by decide +kernel) ⟨_, rfl, g, _, _, .int x, rfl, rfl, hS, rfl, p, l, as, b, x, rfl, hP, _, rfl, ?_⟩⟩
    rw [dec_lt]
    by_cases hi : x < b.n
    · rw [decide_eq_true hi]
      have hno : b.no x = false := decide_eq_false (by omega)
      refine iteF ⟨_, rfl, cP hP (by decide +kernel) ⟨_, rfl, g, _, _, .int y, rfl, rfl, hS, rfl, p, l, as, b, y, rfl, hP, _, rfl, ?_⟩⟩
      rw [dec_lt]
      by_cases hj : y < b.n
      · rw [decide_eq_true hj]
        have hno2 : b.no y = false := decide_eq_false (by omega)
        obtain ⟨a, ea, hM⟩ := hP.man hi
        obtain ⟨a2, ea2, hM2⟩ := hP.man hj
        refine iteF ⟨_, rfl, fP T hP (by decide +kernel) (pF_men b l) ⟨_, rfl, g, _, _, .int x, rfl, rfl, hS, rfl, l, _, _, .ref a, rfl, rfl, SqL.of hP.lst, hP.item ea, ?_⟩⟩
        refine fM T hM (by decide +kernel) (mF_set _) ?_
        refine ⟨_, rfl, fP T hP (by decide +kernel) (pF_men b l) ⟨_, rfl, g, _, _, .int y, rfl, rfl, hS, rfl, l, _, _, .ref a2, rfl, rfl, SqL.of hP.lst, hP.item ea2, ?_⟩⟩
        refine fM T hM2 (by decide +kernel) (mF_set _) ?_
        refine ⟨_, rfl, _, rfl, ?_⟩
        cases e1 : (b.at_ x).set with
        | none =>
          refine iteT (iteT ⟨(by show 1 ≤ sizeLine; decide), fun D hD => fin_new (Same.refl H) hD q ?_⟩)
          simp [tells, act, ansV, only, nV, hno, hno2, e1]
        | some s1 =>
          refine iteF ⟨_, rfl, _, rfl, ?_⟩
          cases e2 : (b.at_ y).set with
          | none =>
            refine iteT ⟨(by show 1 ≤ sizeLine; decide), fun D hD => fin_new (Same.refl H) hD q ?_⟩
            simp [tells, act, ansV, only, nV, hno, hno2, e1, e2]
          | some s2 =>
            refine iteF ⟨_, rfl, _, rfl, rfl, _, rfl, ?_⟩
            by_cases h3 : s1 = s2
            · rw [decide_eq_true (by rw [h3] : oV (some s1) = oV (some s2))]
              refine iteT ⟨(by show 1 ≤ sizeLine; decide), fun D hD => fin_new (Same.refl H) hD q ?_⟩
              simp [tells, act, ansV, only, nV, hno, hno2, e1, e2, h3]
            · rw [decide_eq_false (fun z => h3 (by have := V.int.inj z; omega) : ¬ oV (some s1) = oV (some s2))]
              refine iteF ⟨_, rfl, _, rfl, _, _, rfl, rfl, _, rfl, ?_⟩
              rw [dec_lt]
              by_cases h4 : s1 < s2
              · rw [decide_eq_true h4]
                refine iteT ⟨(by show 1 ≤ sizeLine; decide), fun D hD => fin_new (Same.refl H) hD q ?_⟩
                simp [tells, act, ansV, only, nV, hno, hno2, e1, e2, h4]
              · rw [decide_eq_false h4]
                refine iteF ⟨(by show 1 ≤ sizeLine; decide), fun D hD => fin_new (Same.refl H) hD q ?_⟩
                have h5 : s2 < s1 := by omega
                simp [tells, act, ansV, only, nV, hno, hno2, e1, e2, h4, h5]
      · rw [decide_eq_false hj]
        refine iteT ⟨(by show 1 ≤ sizeLine; decide), fun D hD => fin_new (Same.refl H) hD q ?_⟩
        have hno2 : b.no y = true := decide_eq_true (by omega)
        simp [tells, act, ansV, only, nV, hno2]
    · rw [decide_eq_false hi]
      refine iteT (iteT ⟨(by show 1 ≤ sizeLine; decide), fun D hD => fin_new (Same.refl H) hD q ?_⟩)
      have hno : b.no x = true := decide_eq_true (by omega)
      simp [tells, act, ansV, only, nV, hno]
end
end AG
namespace AG
open PySem PySem.Spec PyProof.Rows L2 Km499
abbrev sQSons : Stmt := top 64
abbrev sQLine : Stmt := top 65
section
variable {P : Program} {w : World} {K : PySem.W.Frag} {mg : Str → Option Value} {base : Heap} {CP CM : Addr}
def turnM (m k : Man) : Bool := match m.set, k.set with
  | some s, some t => decide (m.born < k.born) && decide (t < s)
  | _, _ => false
def spTurned (CM : Addr) : Sp := fun vs H Q _ => ∃ a m c k, vs = [.ref a, .ref c] ∧ ManAt CM H a m ∧ ManAt CM H c k ∧ Q (.bl (turnM m k)) H
theorem scIsTurned : FnScope ["elder", "younger"] ["elder", "younger"] (defScope sIsTurned) := ⟨rfl, rfl, rfl, by decide +kernel, rfl, by decide +kernel, by decide +kernel⟩
theorem ok_isTurned {f : Addr} {fd : FuncData} (F : Fun K "is_turned" "is_turned" sIsTurned f fd) (T : TxS K mg CP CM) : FnOk P w K mg base CX0 1 f fd ["elder", "younger"] (spTurned CM) := by
  refine F.ok scIsTurned (fun vs H Q E h => ?_) (fun cdv A outer s H vs Q E hr h => ?_)
  · obtain ⟨a, m, c, k, rfl, _⟩ := h
    rfl
  · obtain ⟨a, m, c, k, rfl, hM, hK, q⟩ := h
    refine ⟨_, pss_cons (ps_if (PW.pt (pw_or (pt_cmp (pc_isN (pe_fld (pv 0) rfl))) (pw_or1 (pt_cmp (pc_isN (pe_fld (pv 1) rfl)))))) (pss_one (ps_ret pe_bl)) pss_nil)
      (pss_one (ps_ret (pe_and (pe_cmp (pc_lt (pe_fld (pv 0) rfl) (pe_fld (pv 1) rfl)) rfl) (pe_one (pe_cmp (pc_lt (pe_fld (pv 1) rfl) (pe_fld (pv 0) rfl)) rfl))))), ?_⟩
    refine ⟨_, rfl, fM T hM (by decide +kernel) (mF_set m) ⟨_, rfl, ?_⟩⟩
    unfold turnM at q
    cases e1 : m.set with
    | none =>
      rw [e1] at q
      exact iteT (iteT q)
    | some s1 =>
      rw [e1] at q
      refine iteF ⟨_, rfl, fM T hK (by decide +kernel) (mF_set k) ⟨_, rfl, ?_⟩⟩
      cases e2 : k.set with
      | none =>
        rw [e2] at q
        exact iteT q
      | some s2 =>
        rw [e2] at q
        dsimp only at q
        refine iteF ⟨_, rfl, fM T hM (by decide +kernel) (mF_born m) ⟨_, rfl, fM T hK (by decide +kernel) (mF_born k) ⟨_, _, rfl, rfl, _, rfl, ?_⟩⟩⟩
        show if decide ((m.born : Int) < (k.born : Int)) = true then _ else _
        rw [dec_lt]
        by_cases h1 : m.born < k.born
        · rw [decide_eq_true h1] at q ⊢
          rw [Bool.true_and] at q
          refine iteT ⟨_, rfl, fM T hK (by decide +kernel) (mF_set k) ⟨_, rfl, fM T hM (by decide +kernel) (mF_set m) ?_⟩⟩
          rw [e1, e2]
          rw [← dec_lt] at q
          exact ⟨_, _, rfl, rfl, q⟩
        · rw [decide_eq_false h1] at q ⊢
          rw [Bool.false_and] at q
          exact iteF q
theorem scQTurned : FnScope ["people", "given", "turned", "elder", "younger"] ["people", "given"] (defScope sQTurned) := ⟨rfl, rfl, rfl, by decide +kernel, rfl, by decide +kernel, by decide +kernel⟩
theorem ok_qTurned {f fT : Addr} {fd fdT : FuncData} (F : Fun K "pp_turned" "pp_turned" sQTurned f fd) (T : TxS K mg CP CM) (AT : FnAt K mg "is_turned" sIsTurned fT fdT ["elder", "younger"]) :
    FnOk P w K mg base CX0 2 f fd ["people", "given"] (spQ K CP CM 0 fun _ => .twisted) := by
  have GT : FnOk P w K mg base CX0 1 fT fdT ["elder", "younger"] (spTurned CM) := ok_isTurned AT.fn T
  refine F.ok scQTurned (fun vs H Q E h => ?_) (fun cdv A outer s H vs Q E hr h => ?_)
  · obtain ⟨p, l, as, b, g, xs, rfl, _⟩ := h
    rfl
  · obtain ⟨p, l, as, b, g, xs, rfl, hP, hS, hn, q⟩ := h
    refine ⟨_, pss_cons (ps_set (i := 2) scQTurned.nd rfl (Or.inl rfl) pe_int)
      (pss_cons (ps_for PassesOwn.never rfl (pi_list (pe_fld (pv 0) rfl)) (pg_name (i := 3) scQTurned.nd rfl (Or.inr rfl))
        (pss_one (ps_aug (i := 2) scQTurned.nd rfl (Or.inl rfl) (pe_callB call_len_seq (by rfl) T.len PySem.boot_len (pa_cons
          (pe_lc (own := [("younger", 4)]) (g := gName 4) (tt := tB (tCall (spTurned CM) [] E0 (tCons (tVar 3) (tCons (tVar 4) tNil)))) (te := tVar 4) rfl scQTurned.nd (pi_list (pe_fld (pv 0) rfl))
            (blkOk_by (own := [("younger", 4)]) (N := ["people", "given", "turned", "elder", "younger"]) (sc := defScope sQTurned) (by decide +kernel))
            (fun _ _ _ _ _ => pg_name (i := 4) scQTurned.nd rfl (Or.inl rfl))
            (fun _ _ _ _ _ => pts_one (pt_val (pe_call GT hr (by rfl) AT.g AT.fn.kp AT.bi .nil pass0 (pa_cons (pv 3) (pa_cons (pv 4) pa_nil))))) (fun _ _ _ _ _ => pv 4)) pa_nil)) ip_add)))
      (pss_one (ps_ret (pe_lst (pa_cons (pv 2) pa_nil))))), ?_⟩
    have hlen : (as.map V.ref).length = b.n := by rw [List.length_map, hP.len]
    have man : ∀ {k : Nat} {x : V}, (as.map V.ref)[k]? = some x → ∃ a', x = .ref a' ∧ k < b.n ∧ as[k]? = some a' := fun {k x} e1 => by
      rw [List.getElem?_map] at e1
      cases e2 : as[k]? with
      | none =>
        rw [e2] at e1
        cases e1
      | some a' =>
        rw [e2] at e1
        exact ⟨a', (Option.some.inj e1).symm, by rw [← hP.len]; exact (List.getElem?_eq_some_iff.mp e2).1, rfl⟩
    refine ⟨_, rfl, fP T hP (by decide +kernel) (pF_men b l) ⟨l, rfl, ⟨_, SqL.of hP.lst⟩, for_list (xs := as.map V.ref) (fun k σ H' => Same H H' ∧ ∃ v3 v4, σ = [some (.ref p), some (.ref g), some (.int ((turnN b k : Nat) : Int)), v3, v4])
      ⟨Same.refl H, none, none, rfl⟩ (fun k σ H' _ h => SqL.of (h.1 _ _ hP.lst)) ?_ ?_⟩⟩
    · rintro k x σ H1 ex ⟨s1, v3, v4, rfl⟩
      obtain ⟨a', rfl, hk, ea⟩ := man ex
      have hP1 := hP.same s1
      refine ⟨_, rfl, _, rfl, fP T hP1 (by decide +kernel) (pF_men b l) ⟨l, rfl, ⟨_, SqL.of hP1.lst⟩, fun D hD => ?_⟩⟩
      refine lc_list (K := K) (a := l) (xs := as.map V.ref) (fun j H' => Same H1 H' ∧ ∃ vs, H' D = some (.lst vs) ∧ vs.length = ((List.range j).filter fun i => turnB b (k, i)).length)
        ⟨same_new hD, [], upd_same, rfl⟩ (fun j H' _ h => SqL.of (h.1 _ _ hP1.lst)) ?_ ?_
      · rintro j y H2 ey ⟨s2, ws, d2, l2⟩
        obtain ⟨a2, rfl, hj, ea2⟩ := man ey
        have hP2 := hP1.same s2
        refine ⟨rfl, _, rfl, _, rfl, a', b.at_ k, a2, b.at_ j, rfl, hP2.men k a' ea, hP2.men j a2 ea2, _, rfl, ?_⟩
        rw [range_filter_succ]
        show if turnB b (k, j) = true then _ else _
        refine ite2 (fun c => ?_) (fun c => ?_)
        · refine ⟨_, rfl, ws, d2, ?_, ?_, _, upd_same, ?_⟩
          · have h1 := len_filter_range (fun i => turnB b (k, i)) j
            have h2 := hP.few
            exact Nat.lt_of_le_of_lt (by omega : ws.length ≤ 24) (by decide)
          · intro x o e
            rw [upd_ne (ne_of_none e hD)]
            exact s2 _ _ e
          · rw [if_pos c, List.length_append, List.length_append, l2]
            rfl
        · refine ⟨s2, ws, d2, ?_⟩
          rw [if_neg c, List.append_nil]
          exact l2
      · rintro H2 ⟨s2, ws, d2, l2⟩
        refine ⟨D, _, rfl, .inl (SqL.of d2), _, _, rfl, rfl, s1.trans s2, some (.ref a'), v4, ?_⟩
        rw [l2, hlen, turnN_succ, Int.natCast_add]
        rfl
    · rintro σ H1 ⟨s1, v3, v4, rfl⟩
      refine ⟨_, rfl, (by show 1 ≤ sizeLine; decide), fun D hD => fin_new s1 hD q ?_⟩
      rw [hlen, ← twisted_is]
      rfl
theorem scQSons : FnScope ["people", "given", "number", "man"] ["people", "given"] (defScope sQSons) := ⟨rfl, rfl, rfl, by decide +kernel, rfl, by decide +kernel, by decide +kernel⟩
theorem ok_qSons {f fH fA : Addr} {fd fdH fdA : FuncData} (F : Fun K "pp_sons" "pp_sons" sQSons f fd) (T : TxS K mg CP CM) (MH : MethAt K CP "has_man" "People.has_man" sHasMan fH fdH ["self", "number"]) (AA : FnAt K mg "counted_and_together" sAsSet fA fdA ["numbers"]) :
    FnOk P w K mg base CX0 2 f fd ["people", "given"] (spQ K CP CM 1 fun xs => .sons (xs.getD 0 0)) := by
  have GH : FnOk P w K mg base CX0 1 fH fdH ["self", "number"] (spHasMan CP CM) := ok_hasMan MH.fn T
  have GA : FnOk P w K mg base CX0 1 fA fdA ["numbers"] (spAsSet K) := ok_asSet AA.fn T
  refine F.ok scQSons (fun vs H Q E h => ?_) (fun cdv A outer s H vs Q E hr h => ?_)
  · obtain ⟨p, l, as, b, g, xs, rfl, _⟩ := h
    rfl
  · obtain ⟨p, l, as, b, g, xs, rfl, hP, hS, hn, q⟩ := h
    obtain ⟨x, rfl⟩ : ∃ x, xs = [x] := List.length_eq_one_iff.mp hn
    obtain ⟨t2, c2⟩ := T.cs ("NO_SUCH_MAN", -2) (by decide +kernel)
    refine ⟨_, pss_cons (ps_if (pt_not (pt_val (pe_meth (pv 0) T.clP MH.mt GH hr MH.bi .nil pass0 (pa_cons (pe_ix ix_list (pv 1) pe_int (fun _ _ => rfl)) pa_nil)))) (pss_one (ps_ret (pe_lst (pa_cons (pe_glob (v := .int (-2)) (by rfl) c2 ⟨_, rfl⟩) pa_nil)))) pss_nil)
      (pss_one (ps_ret (pe_call GA hr (by rfl) AA.g AA.fn.kp AA.bi .nil pass0 (pa_cons (pe_lc (own := [("number", 2), ("man", 3)]) (g := gTup K 2 (gCons (gName 2) (gCons (gName 3) gNil))) (tt := tTest (tOp rEq (tFld K (tVar 3) "father") (tOp (rIxL K) (tVar 1) (tC (.int 0))))) (te := tVar 2) rfl scQSons.nd
        (pi_enum (by rfl) T.enumerate (pa_cons (pe_fld (pv 0) rfl) pa_nil))
        (blkOk_by (own := [("number", 2), ("man", 3)]) (N := ["people", "given", "number", "man"]) (sc := defScope sQSons) (by decide +kernel))
        (fun _ _ _ _ _ => pg_tup rfl (pgs_cons (pg_name (i := 2) scQSons.nd rfl (Or.inl rfl)) (pgs_cons (pg_name (i := 3) scQSons.nd rfl (Or.inl rfl)) pgs_nil)))
        (fun _ _ _ _ _ => pts_one (pt_cmpR op_eq (pe_fld (pv 3) rfl) (pe_ix ix_list (pv 1) pe_int (fun _ _ => rfl)) (nomark _)))
        (fun _ _ _ _ _ => pv 2)) pa_nil)))), ?_⟩
    refine ⟨_, rfl, cP hP (by decide +kernel) ⟨_, rfl, g, _, _, .int x, rfl, rfl, hS, rfl, p, l, as, b, x, rfl, hP, _, rfl, ?_⟩⟩
    rw [dec_lt]
    by_cases hi : x < b.n
    · rw [decide_eq_true hi]
      have hno : b.no x = false := decide_eq_false (by omega)
      refine iteF ⟨_, rfl, fP T hP (by decide +kernel) (pF_men b l) ?_⟩
      refine ⟨l, _, rfl, SqL.of hP.lst, fun D hD => ?_⟩
      refine lc_it (walk_enum (K := K) (a := l) (xs := as.map V.ref)) (fun i H' => Same H H' ∧ H' D = some (.lst (nV ((List.range i).filter fun j => (b.at_ j).father == some x))))
        ⟨same_new hD, upd_same⟩ (fun i H' _ h => SqL.of (h.1 _ _ hP.lst)) ?_ ?_
      · rintro i x0 H1 H2 hi' ⟨s1, d1⟩ ⟨t, x1, y1, rfl, ht, rfl, e1, e2⟩
        cases e1
        rw [List.length_map] at hi'
        have e2' : (as.map V.ref)[i]? = some y1 := e2
        rw [List.getElem?_map, List.getElem?_eq_getElem hi'] at e2'
        obtain rfl : V.ref as[i] = y1 := Option.some.inj e2'
        have hM : ManAt CM H as[i] (b.at_ i) := hP.men i _ (List.getElem?_eq_getElem hi')
        have s2 : Same H (upd H1 t (.tup [.int (i : Nat), .ref as[i]])) := s1.trans (same_new ht)
        have d2 : upd H1 t (.tup [.int (i : Nat), .ref as[i]]) D = some (.lst (nV ((List.range i).filter fun j => (b.at_ j).father == some x))) := by
          rw [upd_ne (ne_of_none d1 ht)]
          exact d1
        refine ⟨t, _, rfl, SqT.of upd_same, rfl, _, _, rfl, _, _, rfl, rfl, rfl, ?_⟩
        refine ⟨_, rfl, fM T (hM.same s2) (by decide +kernel) (mF_father _) ⟨_, rfl, g, _, _, .int x, rfl, rfl, s2.seq hS, rfl, oV_scal _ _, _, rfl, ?_⟩⟩
        rw [oV_eq, range_filter_succ]
        refine ite2 (fun c => ?_) (fun c => ?_)
        · refine ⟨_, rfl, _, d2, ?_, ?_, ?_⟩
          · have h1 := len_filter_range (fun j => (b.at_ j).father == some x) i
            have h3 := hP.len
            have h2 := hP.few
            rw [nV_len]
            exact Nat.lt_of_le_of_lt (by omega : _ ≤ 24) (by decide)
          · intro x o e
            rw [upd_ne (ne_of_none e hD)]
            exact s2 _ _ e
          · rw [upd_same, if_pos c]
            unfold nV
            rw [List.map_append]
            rfl
        · refine ⟨s2, ?_⟩
          rw [d2, if_neg c, List.append_nil]
      · rintro H1 ⟨s1, d1⟩
        rw [List.length_map, hP.len] at d1
        refine ⟨D, _, rfl, SqL.of d1, fun i hi => Nat.lt_of_lt_of_le (List.mem_range.mp (List.mem_filter.mp hi).1) hP.few, fun H2 D2 s2 hD2 d2 => q H2 D2 (s1.trans s2) (s1.free hD2) ?_⟩
        rw [d2, asSet_is b]
        simp [tells, act, hno, Book.sons, Book.all]
    · rw [decide_eq_false hi]
      refine iteT ⟨(by show 1 ≤ sizeLine; decide), fun D hD => fin_new (Same.refl H) hD q ?_⟩
      have hno : b.no x = true := decide_eq_true (by omega)
      simp [tells, act, ansV, only, nV, hno]
theorem scQLine : FnScope ["people", "given", "fathers", "father"] ["people", "given"] (defScope sQLine) := ⟨rfl, rfl, rfl, by decide +kernel, rfl, by decide +kernel, by decide +kernel⟩
theorem ok_qLine {f fH fA : Addr} {fd fdH fdA : FuncData} (F : Fun K "pp_line" "pp_line" sQLine f fd) (T : TxS K mg CP CM) (MH : MethAt K CP "has_man" "People.has_man" sHasMan fH fdH ["self", "number"]) (AA : FnAt K mg "counted_and_together" sAsSet fA fdA ["numbers"]) :
    FnOk P w K mg base CX0 2 f fd ["people", "given"] (spQ K CP CM 1 fun xs => .line (xs.getD 0 0)) := by
  have GH : FnOk P w K mg base CX0 1 fH fdH ["self", "number"] (spHasMan CP CM) := ok_hasMan MH.fn T
  have GA : FnOk P w K mg base CX0 1 fA fdA ["numbers"] (spAsSet K) := ok_asSet AA.fn T
  refine F.ok scQLine (fun vs H Q E h => ?_) (fun cdv A outer s H vs Q E hr h => ?_)
  · obtain ⟨p, l, as, b, g, xs, rfl, _⟩ := h
    rfl
  · obtain ⟨p, l, as, b, g, xs, rfl, hP, hS, hn, q⟩ := h
    obtain ⟨x, rfl⟩ : ∃ x, xs = [x] := List.length_eq_one_iff.mp hn
    obtain ⟨t2, c2⟩ := T.cs ("NO_SUCH_MAN", -2) (by decide +kernel)
    refine ⟨_, pss_cons (ps_if (pt_not (pt_val (pe_meth (pv 0) T.clP MH.mt GH hr MH.bi .nil pass0 (pa_cons (pe_ix ix_list (pv 1) pe_int (fun _ _ => rfl)) pa_nil)))) (pss_one (ps_ret (pe_lst (pa_cons (pe_glob (v := .int (-2)) (by rfl) c2 ⟨_, rfl⟩) pa_nil)))) pss_nil)
      (pss_cons (ps_set (i := 2) scQLine.nd rfl (Or.inl rfl) (pe_lst pa_nil))
      (pss_cons (ps_set (i := 3) scQLine.nd rfl (Or.inl rfl) (pe_fld (pe_ix ix_list (pe_fld (pv 0) rfl) (pe_ix ix_list (pv 1) pe_int (fun _ _ => rfl)) (fun _ _ => rfl)) rfl))
      (pss_cons (ps_while PassesOwn.never (pt_cmp (pc_notN (pv 3)))
        (pss_cons (ps_expr (pe_bm PySem.F.plainAttrs_list PySem.F.slot_list_append PySem.F.type_list_append mt_append (pv 2) (pa_cons (pv 3) pa_nil)))
        (pss_one (ps_set (i := 3) scQLine.nd rfl (Or.inl rfl) (pe_fld (pe_ix ix_list (pe_fld (pv 0) rfl) (pv 3) (fun _ _ => rfl)) rfl)))))
      (pss_one (ps_ret (pe_call GA hr (by rfl) AA.g AA.fn.kp AA.bi .nil pass0 (pa_cons (pv 2) pa_nil))))))), ?_⟩
    refine ⟨_, rfl, cP hP (by decide +kernel) ⟨_, rfl, g, _, _, .int x, rfl, rfl, hS, rfl, p, l, as, b, x, rfl, hP, _, rfl, ?_⟩⟩
    rw [dec_lt]
    by_cases hi : x < b.n
    · rw [decide_eq_true hi]
      have hno : b.no x = false := decide_eq_false (by omega)
      have h24 := hP.few
      refine iteF ⟨Nat.zero_le _, fun J hJ => ?_⟩
      have s0 : Same H (upd H J (.lst [])) := same_new hJ
      have hP0 := hP.same s0
      obtain ⟨a, ea, hM⟩ := hP0.man hi
      refine ⟨_, rfl, fP T hP0 (by decide +kernel) (pF_men b l) ⟨_, rfl, g, _, _, .int x, rfl, rfl, s0.seq hS, rfl, l, _, _, .ref a, rfl, rfl, SqL.of hP0.lst, hP0.item ea, ?_⟩⟩
      refine fM T hM (by decide +kernel) (mF_father _) ?_
      refine while_by (fun σ H' => Same H H' ∧ ∃ (j fu : Nat) (acc : List Nat), σ = [some (.ref p), some (.ref g), some (.ref J), some (oV (b.at_ j).father)] ∧ j < b.n ∧ j ≤ fu ∧ acc ++ b.up (fu + 1) j = b.up 24 x ∧ acc.length + fu ≤ 23 ∧ (∀ i ∈ acc, i < 24) ∧ H' J = some (.lst (nV acc)))
        (fun σ _ => match σ with | [_, _, _, some (.int i)] => i.toNat + 1 | _ => 0) ?_ ?_ ?_
      · exact ⟨s0, x, 23, [], rfl, hi, by omega, List.nil_append _, by simp, (fun i hi => by cases hi), upd_same⟩
      · rintro σ H1 ⟨s1, j, fu, acc, rfl, hj, hjf, hup, hle, hlt, d1⟩
        have hP1 := hP.same s1
        refine ⟨_, rfl, _, rfl, ?_⟩
        have hu : b.up (fu + 1) j = match (b.at_ j).father with
          | none => []
          | some p => p :: b.up fu p := rfl
        cases ef : (b.at_ j).father with
        | none =>
          rw [ef] at hu
          dsimp only at hu
          rw [hu, List.append_nil] at hup
          refine iteF ⟨_, rfl, J, _, rfl, SqL.of d1, hlt, fun H2 D2 s2 hD2 d2 => q H2 D2 (s1.trans s2) (s1.free hD2) ?_⟩
          rw [d2, asSet_is b, hup]
          simp [tells, act, hno, PEOPLE]
        | some fa =>
          rw [ef] at hu
          dsimp only at hu
          have hfa : fa < j := hP.wf.fa j fa hj ef
          have hfn : fa < b.n := Nat.lt_trans hfa hj
          obtain ⟨fu', rfl⟩ : ∃ fu', fu = fu' + 1 := ⟨fu - 1, by omega⟩
          refine iteT ⟨_, rfl, .inl ⟨rfl, _, SqL.of d1⟩, _, rfl, J, _, _, rfl, rfl, d1, ?_, ?_⟩
          · rw [nV_len]
            exact Nat.lt_of_le_of_lt (by omega : acc.length ≤ 24) (by decide)
          have s2 : Same H (upd H1 J (.lst (nV acc ++ [oV (some fa)]))) := fun x o e => by
            rw [upd_ne (ne_of_none e hJ)]
            exact s1 _ _ e
          have hP2 := hP.same s2
          obtain ⟨a2, ea2, hM2⟩ := hP2.man hfn
          refine ⟨_, rfl, fP T hP2 (by decide +kernel) (pF_men b l) ⟨_, rfl, l, _, _, .ref a2, rfl, rfl, SqL.of hP2.lst, hP2.item ea2, ?_⟩⟩
          refine fM T hM2 (by decide +kernel) (mF_father _) ⟨⟨s2, fa, fu', acc ++ [fa], rfl, hfn, by omega, ?_, ?_, fun i hi => ?_, ?_⟩, ?_⟩
          · rw [List.append_assoc, ← hup, hu]
            rfl
          · rw [List.length_append]
            simp
            omega
          · rcases List.mem_append.mp hi with h | h
            · exact hlt i h
            · have e : i = fa := by simpa using h
              omega
          · rw [upd_same]
            unfold nV
            rw [List.map_append]
            rfl
          · show (match ([some (V.ref p), some (V.ref g), some (V.ref J), some (oV (b.at_ fa).father)] : L2.St) with | [_, _, _, some (.int i)] => i.toNat + 1 | _ => 0) < (fa : Int).toNat + 1
            cases e3 : (b.at_ fa).father with
            | none =>
              show 0 < _
              omega
            | some z =>
              have := hP.wf.fa fa z hfn e3
              show (z : Int).toNat + 1 < _
              omega
      · intro σ H2 R R' mono h
        obtain ⟨v, h1, c, h2, h3⟩ := h
        exact ⟨v, h1, c, h2, mono _ _ h3⟩
    · rw [decide_eq_false hi]
      refine iteT ⟨(by show 1 ≤ sizeLine; decide), fun D hD => fin_new (Same.refl H) hD q ?_⟩
      have hno : b.no x = true := decide_eq_true (by omega)
      simp [tells, act, ansV, only, nV, hno]
end
end AG
namespace AG
open PySem PySem.Spec PyProof.Rows L2 Km499
abbrev sInRet : Stmt := top 66
abbrev sQRetired : Stmt := top 67
abbrev sQNext : Stmt := top 68
abbrev sHasNamed : Stmt := top 69
abbrev sQNamed : Stmt := top 70
abbrev sOneMore : Stmt := top 71
abbrev sQTold : Stmt := top 72
section
variable {P : Program} {w : World} {K : PySem.W.Frag} {mg : Str → Option Value} {base : Heap} {CP CM : Addr}
def retB (b : Book) (i : Nat) : Bool := (b.at_ i).alive && match (b.at_ i).set with
  | none => false
  | some s => b.gradeOf s == none
def spInRet (CP CM : Addr) : Sp := fun vs H Q _ => ∃ p l as b i a, vs = [.ref p, .ref a] ∧ PAt CP CM H p l as b ∧ as[i]? = some a ∧ Q (.bl (retB b i)) H
theorem scInRet : FnScope ["people", "man"] ["people", "man"] (defScope sInRet) := ⟨rfl, rfl, rfl, by decide +kernel, rfl, by decide +kernel, by decide +kernel⟩
theorem ok_inRet {f fR : Addr} {fd fdR : FuncData} (F : Fun K "is_in_retirement" "is_in_retirement" sInRet f fd) (T : TxS K mg CP CM) (MR : MethAt K CP "has_retired" "People.has_retired" sHasRetired fR fdR ["self", "age_set"])
    (GR : FnOk P w K mg base CX0 4 fR fdR ["self", "age_set"] (spHasRetired CP CM)) : FnOk P w K mg base CX0 5 f fd ["people", "man"] (spInRet CP CM) := by
  refine F.ok scInRet (fun vs H Q E h => ?_) (fun cdv A outer s H vs Q E hr h => ?_)
  · obtain ⟨p, l, as, b, i, a, rfl, _⟩ := h
    rfl
  · obtain ⟨p, l, as, b, i, a, rfl, hP, ea, q⟩ := h
    refine ⟨_, pss_one (ps_ret (pe_and (pe_fld (pv 1) rfl) (pe_and (pe_cmp (pc_notN (pe_fld (pv 1) rfl)) rfl) (pe_one (pe_meth (pv 0) T.clP MR.mt GR hr MR.bi .nil pass0 (pa_cons (pe_fld (pv 1) rfl) pa_nil)))))), ?_⟩
    have hM := hP.men i a ea
    have hi : i < b.n := by rw [← hP.len]; exact (List.getElem?_eq_some_iff.mp ea).1
    refine ⟨_, rfl, fM T hM (by decide +kernel) (mF_lives _) ⟨_, rfl, ?_⟩⟩
    unfold retB at q
    cases hal : (b.at_ i).alive with
    | false =>
      rw [hal, Bool.false_and] at q
      exact iteF q
    | true =>
      rw [hal, Bool.true_and] at q
      refine iteT ⟨_, rfl, fM T hM (by decide +kernel) (mF_set _) ⟨_, rfl, ?_⟩⟩
      cases e : (b.at_ i).set with
      | none =>
        rw [e] at q
        exact iteF q
      | some z =>
        rw [e] at q
        dsimp only at q
        refine iteT ⟨_, rfl, cP hP (by decide +kernel) ⟨_, rfl, fM T hM (by decide +kernel) (mF_set _) ?_⟩⟩
        rw [e]
        refine ⟨p, l, as, b, _, rfl, hP, ?_⟩
        have hz := hP.wf.se i z hi e
        have eq : (b.gradeOf z == none) = !decide (((b.newest b.year : Nat) : Int) - (z : Int) < (b.grades : Int)) := by
          unfold Book.gradeOf
          by_cases hg : b.newest b.year - z < b.grades
          · rw [if_pos ⟨hz, hg⟩, decide_eq_true (by omega)]
            rfl
          · rw [if_neg (fun z => hg z.2), decide_eq_false (by omega)]
            rfl
        rw [eq] at q
        exact q
theorem scQRetired : FnScope ["people", "given", "number", "man"] ["people", "given"] (defScope sQRetired) := ⟨rfl, rfl, rfl, by decide +kernel, rfl, by decide +kernel, by decide +kernel⟩
theorem ok_qRetired {f fR fA : Addr} {fd fdR fdA : FuncData} (F : Fun K "pp_retired" "pp_retired" sQRetired f fd) (T : TxS K mg CP CM) (AR : FnAt K mg "is_in_retirement" sInRet fR fdR ["people", "man"]) (AA : FnAt K mg "counted_and_together" sAsSet fA fdA ["numbers"])
    (GR : FnOk P w K mg base CX0 5 fR fdR ["people", "man"] (spInRet CP CM)) :
    FnOk P w K mg base CX0 6 f fd ["people", "given"] (spQ K CP CM 0 fun _ => .retired) := by
  have GA : FnOk P w K mg base CX0 1 fA fdA ["numbers"] (spAsSet K) := ok_asSet AA.fn T
  refine F.ok scQRetired (fun vs H Q E h => ?_) (fun cdv A outer s H vs Q E hr h => ?_)
  · obtain ⟨p, l, as, b, g, xs, rfl, _⟩ := h
    rfl
  · obtain ⟨p, l, as, b, g, xs, rfl, hP, hS, hn, q⟩ := h
    refine ⟨_, pss_one (ps_ret (pe_call GA (hr.mono (by decide)) (by rfl) AA.g AA.fn.kp AA.bi .nil pass0 (pa_cons (pe_lc (own := [("number", 2), ("man", 3)]) (g := gTup K 2 (gCons (gName 2) (gCons (gName 3) gNil))) (tt := tB (tCall (spInRet CP CM) [] E0 (tCons (tVar 0) (tCons (tVar 3) tNil)))) (te := tVar 2) rfl scQRetired.nd
        (pi_enum (by rfl) T.enumerate (pa_cons (pe_fld (pv 0) rfl) pa_nil))
        (blkOk_by (own := [("number", 2), ("man", 3)]) (N := ["people", "given", "number", "man"]) (sc := defScope sQRetired) (by decide +kernel))
        (fun _ _ _ _ _ => pg_tup rfl (pgs_cons (pg_name (i := 2) scQRetired.nd rfl (Or.inl rfl)) (pgs_cons (pg_name (i := 3) scQRetired.nd rfl (Or.inl rfl)) pgs_nil)))
        (fun _ _ _ _ _ => pts_one (pt_val (pe_call GR hr (by rfl) AR.g AR.fn.kp AR.bi .nil pass0 (pa_cons (pv 0) (pa_cons (pv 3) pa_nil)))))
        (fun _ _ _ _ _ => pv 2)) pa_nil))), ?_⟩
    refine ⟨_, rfl, fP T hP (by decide +kernel) (pF_men b l) ?_⟩
    refine ⟨l, _, rfl, SqL.of hP.lst, fun D hD => ?_⟩
    refine lc_it (walk_enum (K := K) (a := l) (xs := as.map V.ref)) (fun i H' => Same H H' ∧ H' D = some (.lst (nV ((List.range i).filter (retB b)))))
      ⟨same_new hD, upd_same⟩ (fun i H' _ h => SqL.of (h.1 _ _ hP.lst)) ?_ ?_
    · rintro i x0 H1 H2 hi' ⟨s1, d1⟩ ⟨t, x1, y1, rfl, ht, rfl, e1, e2⟩
      cases e1
      rw [List.length_map] at hi'
      have e2' : (as.map V.ref)[i]? = some y1 := e2
      rw [List.getElem?_map, List.getElem?_eq_getElem hi'] at e2'
      obtain rfl : V.ref as[i] = y1 := Option.some.inj e2'
      have s2 : Same H (upd H1 t (.tup [.int (i : Nat), .ref as[i]])) := s1.trans (same_new ht)
      have d2 : upd H1 t (.tup [.int (i : Nat), .ref as[i]]) D = some (.lst (nV ((List.range i).filter (retB b)))) := by
        rw [upd_ne (ne_of_none d1 ht)]
        exact d1
      refine ⟨t, _, rfl, SqT.of upd_same, rfl, _, _, rfl, _, _, rfl, rfl, rfl, ?_⟩
      refine ⟨_, rfl, _, rfl, p, l, as, b, i, _, rfl, hP.same s2, List.getElem?_eq_getElem hi', _, rfl, ?_⟩
      rw [range_filter_succ]
      refine ite2 (fun c => ?_) (fun c => ?_)
      · refine ⟨_, rfl, _, d2, ?_, ?_, ?_⟩
        · have h1 := len_filter_range (retB b) i
          have h3 := hP.len
          have h2 := hP.few
          rw [nV_len]
          exact Nat.lt_of_le_of_lt (by omega : _ ≤ 24) (by decide)
        · intro x o e
          rw [upd_ne (ne_of_none e hD)]
          exact s2 _ _ e
        · rw [upd_same, if_pos c]
          unfold nV
          rw [List.map_append]
          rfl
      · refine ⟨s2, ?_⟩
        rw [d2, if_neg c, List.append_nil]
    · rintro H1 ⟨s1, d1⟩
      rw [List.length_map, hP.len] at d1
      refine ⟨D, _, rfl, SqL.of d1, fun i hi => Nat.lt_of_lt_of_le (List.mem_range.mp (List.mem_filter.mp hi).1) hP.few, fun H2 D2 s2 hD2 d2 => q H2 D2 (s1.trans s2) (s1.free hD2) ?_⟩
      rw [d2, asSet_is b]
      rfl
theorem scQNext : FnScope ["people", "given", "coming"] ["people", "given"] (defScope sQNext) := ⟨rfl, rfl, rfl, by decide +kernel, rfl, by decide +kernel, by decide +kernel⟩
theorem ok_qNext {f fN fM fY : Addr} {fd fdN fdM fdY : FuncData} (F : Fun K "pp_next" "pp_next" sQNext f fd) (T : TxS K mg CP CM) (MN : MethAt K CP "newest" "People.newest" sNewest fN fdN ["self"]) (MM : MethAt K CP "name_of" "People.name_of" sNameOf fM fdM ["self", "age_set"]) (MY : MethAt K CP "years_left" "People.years_left" sYearsLeft fY fdY ["self"])
    (GN : FnOk P w K mg base CX0 2 fN fdN ["self"] (spNewest CP CM)) :
    FnOk P w K mg base CX0 3 f fd ["people", "given"] (spQ K CP CM 0 fun _ => .next) := by
  have GM : FnOk P w K mg base CX0 1 fM fdM ["self", "age_set"] (spNameOf CP CM) := ok_nameOf MM.fn T
  have GY : FnOk P w K mg base CX0 1 fY fdY ["self"] (spYearsLeft CP CM) := ok_yearsLeft MY.fn T
  refine F.ok scQNext (fun vs H Q E h => ?_) (fun cdv A outer s H vs Q E hr h => ?_)
  · obtain ⟨p, l, as, b, g, xs, rfl, _⟩ := h
    rfl
  · obtain ⟨p, l, as, b, g, xs, rfl, hP, hS, hn, q⟩ := h
    have hr1 : Room 1 _ := hr.mono (by decide)
    refine ⟨_, pss_cons (ps_set (i := 2) scQNext.nd rfl (Or.inl rfl) (pe_op op_add (pe_meth0 (pv 0) T.clP MN.mt GN hr MN.bi .nil pass0) pe_int))
      (pss_one (ps_ret (pe_lst (pa_cons (pe_meth0 (pv 0) T.clP MY.mt GY hr1 MY.bi .nil pass0) (pa_cons (pv 2) (pa_cons (pe_meth (pv 0) T.clP MM.mt GM hr1 MM.bi .nil pass0 (pa_cons (pv 2) pa_nil)) pa_nil)))))), ?_⟩
    refine ⟨_, rfl, cP hP (by decide +kernel) ⟨p, l, as, b, rfl, hP, _, _, rfl, rfl, ?_⟩⟩
    refine ⟨_, rfl, cP hP (by decide +kernel) ⟨p, l, as, b, rfl, hP, ?_⟩⟩
    refine ⟨_, rfl, _, rfl, cP hP (by decide +kernel) ⟨_, rfl, p, l, as, b, b.newest b.year + 1, rfl, hP, (by show 3 ≤ sizeLine; decide), fun D hD => fin_new (Same.refl H) hD q ?_⟩⟩
    rfl
def namB (b : Book) (k g : Nat) : Bool := match b.setOf g with
  | none => false
  | some s => b.name s == k
def spHasNamed (CP CM : Addr) : Sp := fun vs H Q _ => ∃ p l as b g k, vs = [.ref p, .int ((g : Nat) : Int), .int ((k : Nat) : Int)] ∧ PAt CP CM H p l as b ∧ g < b.grades ∧ Q (.bl (namB b k g)) H
theorem scHasNamed : FnScope ["people", "grade", "name", "age_set"] ["people", "grade", "name"] (defScope sHasNamed) := ⟨rfl, rfl, rfl, by decide +kernel, rfl, by decide +kernel, by decide +kernel⟩
theorem ok_hasNamed {f fS fM : Addr} {fd fdS fdM : FuncData} (F : Fun K "has_set_named" "has_set_named" sHasNamed f fd) (T : TxS K mg CP CM) (MS : MethAt K CP "set_in" "People.set_in" sSetIn fS fdS ["self", "grade"]) (MM : MethAt K CP "name_of" "People.name_of" sNameOf fM fdM ["self", "age_set"])
    (GS : FnOk P w K mg base CX0 3 fS fdS ["self", "grade"] (spSetIn CP CM)) : FnOk P w K mg base CX0 4 f fd ["people", "grade", "name"] (spHasNamed CP CM) := by
  have GM : FnOk P w K mg base CX0 1 fM fdM ["self", "age_set"] (spNameOf CP CM) := ok_nameOf MM.fn T
  refine F.ok scHasNamed (fun vs H Q E h => ?_) (fun cdv A outer s H vs Q E hr h => ?_)
  · obtain ⟨p, l, as, b, g, k, rfl, _⟩ := h
    rfl
  · obtain ⟨p, l, as, b, g, k, rfl, hP, hg, q⟩ := h
    refine ⟨_, pss_cons (ps_set (i := 3) scHasNamed.nd rfl (Or.inl rfl) (pe_meth (pv 0) T.clP MS.mt GS hr MS.bi .nil pass0 (pa_cons (pv 1) pa_nil)))
      (pss_one (ps_ret (pe_and (pe_cmp (pc_notN (pv 3)) rfl) (pe_one (pe_cmpR op_eq (pe_meth (pv 0) T.clP MM.mt GM (hr.mono (by decide)) MM.bi .nil pass0 (pa_cons (pv 3) pa_nil)) (pv 2) (nomark _)))))), ?_⟩
    refine ⟨_, rfl, cP hP (by decide +kernel) ⟨_, rfl, p, l, as, b, g, rfl, hP, ?_⟩⟩
    unfold namB at q
    rw [setOf_is hg] at q
    refine ⟨_, rfl, _, rfl, ?_⟩
    by_cases hx : g ≤ b.newest b.year
    · rw [if_pos hx] at q ⊢
      dsimp only at q
      refine iteT ⟨_, rfl, cP hP (by decide +kernel) ⟨_, rfl, p, l, as, b, _, rfl, hP, _, rfl, rfl, ?_⟩⟩
      have e : (b.name (b.newest b.year - g) == k) = decide (V.int ((b.name (b.newest b.year - g) : Nat) : Int) = V.int (k : Int)) := by
        rw [Bool.eq_iff_iff]
        simp
        omega
      rw [e] at q
      exact q
    · rw [if_neg hx] at q ⊢
      exact iteF q
theorem scQNamed : FnScope ["people", "given", "grade"] ["people", "given"] (defScope sQNamed) := ⟨rfl, rfl, rfl, by decide +kernel, rfl, by decide +kernel, by decide +kernel⟩
theorem ok_qNamed {f fH fS fA : Addr} {fd fdH fdS fdA : FuncData} (F : Fun K "pp_named" "pp_named" sQNamed f fd) (T : TxS K mg CP CM) (MH : MethAt K CP "has_name" "People.has_name" sHasName fH fdH ["self", "name"]) (AS : FnAt K mg "has_set_named" sHasNamed fS fdS ["people", "grade", "name"]) (AA : FnAt K mg "counted_and_together" sAsSet fA fdA ["numbers"])
    (GS : FnOk P w K mg base CX0 4 fS fdS ["people", "grade", "name"] (spHasNamed CP CM)) :
    FnOk P w K mg base CX0 5 f fd ["people", "given"] (spQ K CP CM 1 fun xs => .named (xs.getD 0 0)) := by
  have GH : FnOk P w K mg base CX0 1 fH fdH ["self", "name"] (spHasName CP CM) := ok_hasName MH.fn T
  have GA : FnOk P w K mg base CX0 1 fA fdA ["numbers"] (spAsSet K) := ok_asSet AA.fn T
  refine F.ok scQNamed (fun vs H Q E h => ?_) (fun cdv A outer s H vs Q E hr h => ?_)
  · obtain ⟨p, l, as, b, g, xs, rfl, _⟩ := h
    rfl
  · obtain ⟨p, l, as, b, g, xs, rfl, hP, hS, hn, q⟩ := h
    obtain ⟨x, rfl⟩ : ∃ x, xs = [x] := List.length_eq_one_iff.mp hn
    obtain ⟨t22, c22⟩ := T.cs ("OUT_OF_BOUNDS", -22) (by decide +kernel)
    have hr1 : Room 1 _ := hr.mono (by decide)
    refine ⟨_, pss_cons (ps_if (pt_not (pt_val (pe_meth (pv 0) T.clP MH.mt GH hr1 MH.bi .nil pass0 (pa_cons (pe_ix ix_list (pv 1) pe_int (fun _ _ => rfl)) pa_nil)))) (pss_one (ps_ret (pe_lst (pa_cons (pe_glob (v := .int (-22)) (by rfl) c22 ⟨_, rfl⟩) pa_nil)))) pss_nil)
      (pss_one (ps_ret (pe_call GA hr1 (by rfl) AA.g AA.fn.kp AA.bi .nil pass0 (pa_cons (pe_lc (own := [("grade", 2)]) (g := gName 2) (tt := tB (tCall (spHasNamed CP CM) [] E0 (tCons (tVar 0) (tCons (tVar 2) (tCons (tOp (rIxL K) (tVar 1) (tC (.int 0))) tNil))))) (te := tVar 2) rfl scQNamed.nd
        (pi_range1 (by rfl) T.range (pa_cons (pe_fld (pv 0) rfl) pa_nil))
        (blkOk_by (own := [("grade", 2)]) (N := ["people", "given", "grade"]) (sc := defScope sQNamed) (by decide +kernel))
        (fun _ _ _ _ _ => pg_name (i := 2) scQNamed.nd rfl (Or.inl rfl))
        (fun _ _ _ _ _ => pts_one (pt_val (pe_call GS hr (by rfl) AS.g AS.fn.kp AS.bi .nil pass0 (pa_cons (pv 0) (pa_cons (pv 2) (pa_cons (pe_ix ix_list (pv 1) pe_int (fun _ _ => rfl)) pa_nil))))))
        (fun _ _ _ _ _ => pv 2)) pa_nil)))), ?_⟩
    refine ⟨_, rfl, cP hP (by decide +kernel) ⟨_, rfl, g, _, _, .int x, rfl, rfl, hS, rfl, p, l, as, b, x, rfl, hP, _, rfl, ?_⟩⟩
    rw [dec_lt]
    by_cases hg : x < b.names
    · rw [decide_eq_true hg]
      have hng : ¬ b.names ≤ x := by omega
      have h8 := hP.wf.g2
      refine iteF ⟨_, rfl, fP T hP (by decide +kernel) (pF_grades b l) ⟨_, rfl, by omega, by omega, fun D hD => ?_⟩⟩
      rw [Int.toNat_natCast]
      refine lc_range (lo := 0) (n := b.grades) (fun k H' => Same H H' ∧ H' D = some (.lst (nV ((List.range k).filter (namB b x))))) ⟨same_new hD, upd_same⟩ ?_ ?_
      · rintro k H1 hk ⟨s1, d1⟩
        rw [Int.zero_add]
        refine ⟨rfl, _, rfl, _, rfl, _, rfl, g, _, _, .int x, rfl, rfl, s1.seq hS, rfl, p, l, as, b, k, x, rfl, hP.same s1, hk, _, rfl, ?_⟩
        rw [range_filter_succ]
        refine ite2 (fun c => ?_) (fun c => ?_)
        · refine ⟨_, rfl, _, d1, ?_, ?_, ?_⟩
          · rw [nV_len]
            have h1 := len_filter_range (namB b x) k
            exact Nat.lt_of_le_of_lt (by omega : _ ≤ 24) (by decide)
          · intro x o e
            rw [upd_ne (ne_of_none e hD)]
            exact s1 _ _ e
          · rw [upd_same, if_pos c]
            unfold nV
            rw [List.map_append]
            rfl
        · refine ⟨s1, ?_⟩
          rw [if_neg c, List.append_nil]
          exact d1
      · rintro H1 ⟨s1, d1⟩
        refine ⟨D, _, rfl, SqL.of d1, fun i hi => ?_, fun H2 D2 s2 hD2 d2 => q H2 D2 (s1.trans s2) (s1.free hD2) ?_⟩
        · have h1 := List.mem_range.mp (List.mem_filter.mp hi).1
          omega
        · rw [d2, asSet_is b]
          show some (HO.lst (ansV (b.some_ ((List.range b.grades).filter (namB b x))))) = some (HO.lst (ansV (if b.names ≤ x then only (-22) else b.some_ ((List.range b.grades).filter (namB b x)))))
          rw [if_neg hng]
    · rw [decide_eq_false hg]
      refine iteT ⟨(by show 1 ≤ sizeLine; decide), fun D hD => fin_new (Same.refl H) hD q ?_⟩
      have hng : b.names ≤ x := by omega
      simp [tells, act, ansV, only, nV, hng]
def spOneMore : Sp := fun vs H Q _ => ∃ o : Option Nat, vs = [oV o] ∧ Q (.int ((tell o : Nat) : Int)) H
theorem scOneMore : FnScope ["number"] ["number"] (defScope sOneMore) := ⟨rfl, rfl, rfl, by decide +kernel, rfl, by decide +kernel, by decide +kernel⟩
theorem ok_oneMore {f : Addr} {fd : FuncData} (F : Fun K "one_more" "one_more" sOneMore f fd) : FnOk P w K mg base CX0 1 f fd ["number"] spOneMore := by
  refine F.ok scOneMore (fun vs H Q E h => ?_) (fun cdv A outer s H vs Q E hr h => ?_)
  · obtain ⟨o, rfl, _⟩ := h
    rfl
  · obtain ⟨o, rfl, q⟩ := h
    refine ⟨_, pss_one (ps_ret (pe_ifExp (pt_cmp (pc_isN (pv 0))) pe_int (pe_op op_add (pv 0) pe_int))), ?_⟩
    refine ⟨_, rfl, _, rfl, ?_⟩
    cases o with
    | none => exact iteT q
    | some n => exact iteF ⟨_, rfl, _, _, rfl, rfl, q⟩
theorem scQTold : FnScope ["people", "given", "man", "joined"] ["people", "given"] (defScope sQTold) := ⟨rfl, rfl, rfl, by decide +kernel, rfl, by decide +kernel, by decide +kernel⟩
theorem ok_qTold {f fH fO : Addr} {fd fdH fdO : FuncData} (F : Fun K "pp_told" "pp_told" sQTold f fd) (T : TxS K mg CP CM) (MH : MethAt K CP "has_man" "People.has_man" sHasMan fH fdH ["self", "number"]) (AO : FnAt K mg "one_more" sOneMore fO fdO ["number"]) :
    FnOk P w K mg base CX0 2 f fd ["people", "given"] (spQ K CP CM 1 fun xs => .told (xs.getD 0 0)) := by
  have GH : FnOk P w K mg base CX0 1 fH fdH ["self", "number"] (spHasMan CP CM) := ok_hasMan MH.fn T
  have GO : FnOk P w K mg base CX0 1 fO fdO ["number"] spOneMore := ok_oneMore AO.fn
  refine F.ok scQTold (fun vs H Q E h => ?_) (fun cdv A outer s H vs Q E hr h => ?_)
  · obtain ⟨p, l, as, b, g, xs, rfl, _⟩ := h
    rfl
  · obtain ⟨p, l, as, b, g, xs, rfl, hP, hS, hn, q⟩ := h
    obtain ⟨x, rfl⟩ : ∃ x, xs = [x] := List.length_eq_one_iff.mp hn
    obtain ⟨t2, c2⟩ := T.cs ("NO_SUCH_MAN", -2) (by decide +kernel)
    refine ⟨_, pss_cons (ps_if (pt_not (pt_val (pe_meth (pv 0) T.clP MH.mt GH hr MH.bi .nil pass0 (pa_cons (pe_ix ix_list (pv 1) pe_int (fun _ _ => rfl)) pa_nil)))) (pss_one (ps_ret (pe_lst (pa_cons (pe_glob (v := .int (-2)) (by rfl) c2 ⟨_, rfl⟩) pa_nil)))) pss_nil)
      (pss_cons (ps_set (i := 2) scQTold.nd rfl (Or.inl rfl) (pe_ix ix_list (pe_fld (pv 0) rfl) (pe_ix ix_list (pv 1) pe_int (fun _ _ => rfl)) (fun _ _ => rfl)))
      (pss_cons (ps_set (i := 3) scQTold.nd rfl (Or.inl rfl) (pe_ifExp (pt_cmp (pc_isN (pe_fld (pv 2) rfl))) pe_int (pe_fld (pv 2) rfl)))
      (pss_one (ps_ret (pe_lst (pa_cons (pe_fld (pv 2) rfl) (pa_cons (pe_call GO hr (by rfl) AO.g AO.fn.kp AO.bi .nil pass0 (pa_cons (pe_fld (pv 2) rfl) pa_nil)) (pa_cons (pe_call GO hr (by rfl) AO.g AO.fn.kp AO.bi .nil pass0 (pa_cons (pe_fld (pv 2) rfl) pa_nil)) (pa_cons (pv 3) pa_nil))))))))), ?_⟩
    refine ⟨_, rfl, cP hP (by decide +kernel) ⟨_, rfl, g, _, _, .int x, rfl, rfl, hS, rfl, p, l, as, b, x, rfl, hP, _, rfl, ?_⟩⟩
    rw [dec_lt]
    by_cases hi : x < b.n
    · rw [decide_eq_true hi]
      have hno : b.no x = false := decide_eq_false (by omega)
      obtain ⟨a, ea, hM⟩ := hP.man hi
      refine iteF ⟨_, rfl, fP T hP (by decide +kernel) (pF_men b l) ⟨_, rfl, g, _, _, .int x, rfl, rfl, hS, rfl, l, _, _, .ref a, rfl, rfl, SqL.of hP.lst, hP.item ea, ?_⟩⟩
      have fin : (tRet (tLst (tCons (tFld K (tVar 2) "born") (tCons (tCall spOneMore [] E0 (tCons (tFld K (tVar 2) "father") tNil)) (tCons (tCall spOneMore [] E0 (tCons (tFld K (tVar 2) "age_set") tNil)) (tCons (tVar 3) tNil)))))) { nx := fun _ H' => Q .non H', rt := Q } [some (.ref p), some (.ref g), some (.ref a), some (.int ((b.at_ x).joined : Int))] H := by
        refine ⟨_, rfl, fM T hM (by decide +kernel) (mF_born _) ?_⟩
        refine ⟨_, rfl, fM T hM (by decide +kernel) (mF_father _) ⟨_, rfl, ?_⟩⟩
        refine ⟨_, rfl, fM T hM (by decide +kernel) (mF_set _) ⟨_, rfl, ?_⟩⟩
        refine ⟨_, rfl, (by show 4 ≤ sizeLine; decide), fun D hD => fin_new (Same.refl H) hD q ?_⟩
        simp [tells, act, ansV, nV, hno, n2i]
      refine ⟨_, rfl, fM T hM (by decide +kernel) (mF_joined _) ⟨_, rfl, ?_⟩⟩
      cases e : (b.at_ x).set with
      | none =>
        have ej : joV (b.at_ x) = .non := by unfold joV; rw [e]
        rw [ej]
        rw [hP.wf.jo x hi e] at fin
        exact iteT fin
      | some z =>
        have ej : joV (b.at_ x) = .int ((b.at_ x).joined : Int) := by unfold joV; rw [e]
        rw [ej]
        refine iteF ⟨_, rfl, fM T hM (by decide +kernel) (mF_joined _) ?_⟩
        rw [ej]
        exact fin
    · rw [decide_eq_false hi]
      refine iteT ⟨(by show 1 ≤ sizeLine; decide), fun D hD => fin_new (Same.refl H) hD q ?_⟩
      have hno : b.no x = true := decide_eq_true (by omega)
      simp [tells, act, ansV, only, nV, hno]
end
end AG
namespace AG
open PySem PySem.Spec PyProof.Rows L2 LamX NdefX Km499
section
variable {P : Program} {w : World} {K : PySem.W.Frag} {mg : Str → Option Value} {base : Heap} {CP CM : Addr}
/-- a def whose code object is at c -/
theorem okC {x qual : Str} {st : Stmt} {f c : Addr} {fd : FuncData} {N ps : List Str} {k : Nat} {sp : Sp} (F : Fun K x qual st f fd) (hc : fd.code = .ref c) (S : FnScope N ps (defScope st)) (len : ∀ vs H Q E, sp vs H Q E → vs.length = ps.length)
    (hbody : ∀ (A : Around) (outer : List Env) (s : Shared) (H : Hp) (vs : List V) (Q : VK) (E : XK), Room k (A.deeper (envOfC qual (defScope st) s.heap.objs.size f (.ref c))) → sp vs H Q E →
      ∃ t, PSs (cxOf CX0 P w K mg base N qual (defScope st) f (.ref c) A outer s H E).nox (defBody st) t ∧ t { nx := fun _ H' => Q .non H', rt := Q } (start N vs) H) : FnOk P w K mg base CX0 (k + 1) f fd ps sp := by
  obtain ⟨oc, od, kV, doc, pm, an, cdv, ct, osl, rfl, lk, hcd⟩ := F.ex
  obtain rfl : cdv = .ref c := hc
  exact fn_of lk hcd S len fun A outer s H vs Q E hr q => let ⟨t, h, q⟩ := hbody A outer s H vs Q E hr q; ⟨t, h.nox, q⟩
theorem ManAt.ext {H H' : Hp} {a : Addr} {m : Man} (h : ManAt CM H a m) (s : ExtN H H') : ManAt CM H' a m := by
  obtain ⟨dx, h⟩ := h
  exact ⟨dx, s _ _ h fun _ z => by cases z⟩
theorem PAt.ext {H H' : Hp} {p l : Addr} {as : List Addr} {b : Book} (h : PAt CP CM H p l as b) (s : ExtN H H') : PAt CP CM H' p l as b := by
  obtain ⟨dx, h1⟩ := h.obj
  exact ⟨⟨dx, s _ _ h1 fun _ z => by cases z⟩, s _ _ h.lst (fun _ z => by cases z), h.len, fun i a e => (h.men i a e).ext s, h.nd, h.wf⟩
/-- D is none of what was tracked (tables aside) -/
def NewN (H : Hp) (D : Addr) : Prop := ∀ b o, H b = some o → (∀ ps, o ≠ .tbl ps) → b ≠ D
theorem NewN.of {H : Hp} {D : Addr} (h : H D = none) : NewN H D := fun _ _ e _ => ne_of_none e h
theorem NewN.back {H H' : Hp} {D : Addr} (e : ExtN H H') (h : NewN H' D) : NewN H D := fun b o q n => h b o (e b o q n) n
/-- a question that may make a lambda: the tables of T may grow -/
def spQT (K : PySem.W.Frag) (CP CM : Addr) (T : List (Addr × Str)) (n : Nat) (c : List Nat → Call) : Sp := fun vs H Q _ => ∃ p l as b g xs, vs = [.ref p, .ref g] ∧ PAt CP CM H p l as b ∧ SqL K H g (nV xs) ∧ xs.length = n ∧ Tabs T H ∧
  ∀ H' D, ExtN H H' → Tabs T H' → NewN H D → H' D = some (.lst (ansV (tells b (c xs)))) → Q (.ref D) H'
theorem spQ_T {T : List (Addr × Str)} {n : Nat} {c : List Nat → Call} (vs : List V) (H : Hp) (Q : VK) (E : XK) (h : spQT K CP CM T n c vs H Q E) : spQ K CP CM n c vs H Q E := by
  obtain ⟨p, l, as, b, g, xs, e, hP, hS, hn, hT, q⟩ := h
  exact ⟨p, l, as, b, g, xs, e, hP, hS, hn, fun H' D s hD d => q H' D (ExtN.of s) (hT.ext s) (NewN.of hD) d⟩
def qSp : Str := (envOfC "pp_speaker" (defScope sQSpeaker) 0 0 .none).qual ++ "<lambda>"
theorem scQSpeaker : FnScope ["people", "given", "age_set", "living", "speaker"] ["people", "given"] (defScope sQSpeaker) := ⟨rfl, rfl, rfl, by decide +kernel, rfl, by decide +kernel, by decide +kernel⟩
theorem ok_qSpeaker {f fS fL fA c Pt : Addr} {fd fdS fdL fdA : FuncData} (F : Fun K "pp_speaker" "pp_speaker" sQSpeaker f fd) (hc : fd.code = .ref c) (TB : TabB base mg c Pt) (T : TxS K mg CP CM)
    (MS : MethAt K CP "set_in" "People.set_in" sSetIn fS fdS ["self", "grade"]) (ML : MethAt K CP "living_in" "People.living_in" sLivingIn fL fdL ["self", "age_set"]) (MA : MethAt K CP "age_of" "People.age_of" sAgeOf fA fdA ["self", "man"])
    (GS : FnOk P w K mg base CX0 3 fS fdS ["self", "grade"] (spSetIn CP CM)) :
    FnOk P w K mg base CX0 4 f fd ["people", "given"] (spQT K CP CM [(Pt, qSp)] 0 fun _ => .speaker) := by
  have GL : FnOk P w K mg base CX0 1 fL fdL ["self", "age_set"] (spLivingIn CP CM) := ok_livingIn ML.fn T
  have GA : FnOk P w K mg base CX0 1 fA fdA ["self", "man"] (spAgeOf CP CM) := ok_ageOf MA.fn T
  refine okC F hc scQSpeaker (fun vs H Q E h => ?_) (fun A outer s H vs Q E hr h => ?_)
  · obtain ⟨p, l, as, b, g, xs, rfl, _⟩ := h
    rfl
  · obtain ⟨p, l, as, b, g, xs, rfl, hP, hS, hn, hT, q⟩ := h
    obtain ⟨t33, c33⟩ := T.cs ("NONE_THERE", -33) (by decide +kernel)
    have hr1 : Room 1 _ := hr.mono (by decide)
    refine ⟨_, pss_cons (ps_set (i := 2) scQSpeaker.nd rfl (Or.inl rfl) (pe_meth (pv 0) T.clP MS.mt GS hr MS.bi .nil pass0 (pa_cons (pe_fld (pv 0) rfl) pa_nil)))
      (pss_cons (ps_if (pt_cmp (pc_isN (pv 2))) (pss_one (ps_ret (pe_lst (pa_cons (pe_glob (v := .int (-33)) (by rfl) c33 ⟨_, rfl⟩) pa_nil)))) pss_nil)
      (pss_cons (ps_set (i := 3) scQSpeaker.nd rfl (Or.inl rfl) (pe_meth (pv 0) T.clP ML.mt GL hr1 ML.bi .nil pass0 (pa_cons (pv 2) pa_nil)))
      (pss_cons (ps_if (pt_cmpR op_eq (pe_callB call_len_seq (by rfl) T.len PySem.boot_len (pa_cons (pv 3) pa_nil)) pe_int (nomark _)) (pss_one (ps_ret (pe_lst (pa_cons (pe_glob (v := .int (-33)) (by rfl) c33 ⟨_, rfl⟩) pa_nil)))) pss_nil)
      (pss_cons (ps_set (i := 4) scQSpeaker.nd rfl (Or.inl rfl) (pe_minLam (k := 0) (T := [(Pt, qSp)]) (N := ["number", "people"]) (fr := ["people"]) (x := "number") (js := [0])
          (tb := tFld K (tOp (rIxL K) (tFld K (tVar 1) "men") (tVar 0)) "born") (by rfl) T.min (pa_cons (pv 3) pa_nil) TB rfl (.head _) (fun p hp _ => by rw [List.mem_singleton.mp hp]; rfl) (hr.mono (by decide))
          (nscope_by (by decide +kernel)) (ndef_free (sc := defScope sQSpeaker) (fr := ["people"]) (by decide +kernel)) (ndef_fr (sc := defScope sQSpeaker) (by decide +kernel)) rfl rfl (fun _ _ _ _ _ _ => rfl)
          (fun F f A outer s H E e _ => by
            obtain ⟨a1, a2, a3, a4, a5, a6, a7⟩ := F
            dsimp only at e
            subst e
            exact pe_fld (pe_ix ix_list (pe_fld (pv 1) rfl) (pv 0) (fun _ _ => rfl)) rfl)))
      (pss_one (ps_ret (pe_lst (pa_cons (pv 4) (pa_cons (pe_meth (pv 0) T.clP MA.mt GA hr1 MA.bi .nil pass0 (pa_cons (pe_ix ix_list (pe_fld (pv 0) rfl) (pv 4) (fun _ _ => rfl)) pa_nil)) pa_nil))))))))), ?_⟩
    refine ⟨_, rfl, cP hP (by decide +kernel) ⟨_, rfl, fP T hP (by decide +kernel) (pF_office b l) ⟨p, l, as, b, b.rules, rfl, hP, ?_⟩⟩⟩
    refine ⟨_, rfl, _, rfl, ?_⟩
    have hset := setOf_is hP.wf.ru
    have fin : ∀ {H1 : Hp} {D : Addr} {vs : List V}, ExtN H H1 → Tabs [(Pt, qSp)] H1 → H1 D = none → vs = ansV (tells b .speaker) → Q (.ref D) (upd H1 D (.lst vs)) := fun {H1 D vs} e t hD ev => by
      exact q _ D (e.trans (ExtN.of (same_new hD))) (t.ext (same_new hD)) ((NewN.of hD).back e) (by rw [upd_same, ev])
    by_cases hx : b.rules ≤ b.newest b.year
    · rw [if_pos hx] at hset ⊢
      refine iteF ⟨_, rfl, cP hP (by decide +kernel) ⟨_, rfl, p, l, as, b, _, rfl, hP, fun H1 D s1 hD d1 => ?_⟩⟩
      have hP1 := hP.same s1
      have t1 := hT.ext s1
      refine ⟨_, rfl, D, _, rfl, .inl (SqL.of d1), rfl, _, rfl, ?_⟩
      rw [nV_len]
      have e1 := ExtN.of s1
      obtain ⟨L, eL⟩ : ∃ L, L = b.living (b.newest b.year - b.rules) := ⟨_, rfl⟩
      rw [← eL] at d1 ⊢
      have hL : ∀ i ∈ L, i < b.n := fun i hi => living_lt (by rw [← eL]; exact hi)
      have hsp : b.speaker = eldest (fun i => (b.at_ i).born) L := by
        unfold Book.speaker Book.ruler
        rw [hset, eL]
        rfl
      by_cases h0 : L.length = 0
      · rw [h0]
        refine iteT ⟨(by show 1 ≤ sizeLine; decide), fun D2 hD2 => fin e1 t1 hD2 ?_⟩
        rw [List.length_eq_zero_iff.mp h0] at hsp
        have hsp' : b.speaker = none := hsp
        simp [tells, act, ansV, nV, hsp', only]
      · have d0 : decide (V.int (L.length : Int) = V.int 0) = false := decide_eq_false fun z => by
          have z' := V.int.inj z
          omega
        rw [d0]
        refine iteF ⟨_, rfl, D, nV L, rfl, SqL.of d1, (by rw [nV_len]; omega), t1, fun H2 e2 t2 => ⟨fun i => ((b.at_ (L.getD i 0)).born : Int), ?_, ?_⟩⟩
        · intro i x ex
          have hP2 := hP1.ext e2
          unfold nV at ex
          rw [List.getElem?_map] at ex
          cases en : L[i]? with
          | none =>
            rw [en] at ex
            cases ex
          | some n =>
            rw [en] at ex
            obtain rfl : V.int (n : Int) = x := Option.some.inj ex
            obtain ⟨a, ea, hM⟩ := hP2.man (hL n (List.mem_of_getElem? en))
            refine ⟨_, rfl, fP T hP2 (by decide +kernel) (pF_men b l) ⟨_, rfl, l, _, _, .ref a, rfl, rfl, SqL.of hP2.lst, hP2.item ea, fM T hM (by decide +kernel) (mF_born _) ⟨rfl, ?_⟩⟩⟩
            have eg : L.getD i 0 = n := by simp [en]
            show V.int ((b.at_ n).born : Int) = V.int ((b.at_ (L.getD i 0)).born : Int)
            rw [eg]
        · intro i x ex best
          have hP2 := hP1.ext e2
          unfold nV at ex
          rw [List.getElem?_map] at ex
          cases en : L[i]? with
          | none =>
            rw [en] at ex
            cases ex
          | some n =>
            rw [en] at ex
            obtain rfl : V.int (n : Int) = x := Option.some.inj ex
            have hn' := hL n (List.mem_of_getElem? en)
            obtain ⟨a, ea, hM⟩ := hP2.man hn'
            have ch : Chosen (fun i => (b.at_ i).born) L i n := ⟨en, fun m y ey => by
              have hm : m < L.length := (List.getElem?_eq_some_iff.mp ey).1
              have h1 := best m (by rw [nV_len]; exact hm)
              have e3 : L.getD i 0 = n := by simp [en]
              have e4 : L.getD m 0 = y := by simp [ey]
              dsimp only at h1
              rw [e3, e4] at h1
              show (b.at_ n).born ≤ (b.at_ y).born ∧ (m < i → (b.at_ n).born < (b.at_ y).born)
              exact ⟨by omega, fun h => by have := h1.2 h; omega⟩⟩
            have hsp2 := hsp.trans (eldest_is ch)
            refine ⟨_, rfl, _, rfl, cP hP2 (by decide +kernel) ⟨_, rfl, fP T hP2 (by decide +kernel) (pF_men b l) ⟨_, rfl, l, _, _, .ref a, rfl, rfl, SqL.of hP2.lst, hP2.item ea, ?_⟩⟩⟩
            refine ⟨p, l, as, b, a, _, rfl, hP2, hM, (by show 2 ≤ sizeLine; decide), fun D2 hD2 => fin (e1.trans e2) t2 hD2 ?_⟩
            have hb := hP.wf.bo n hn'
            have e5 : ((b.year : Int) - ((b.at_ n).born : Int)) = ((b.age n : Nat) : Int) := by
              unfold Book.age
              omega
            rw [e5]
            simp [tells, act, ansV, nV, hsp2, n2i]
    · rw [if_neg hx] at hset ⊢
      refine iteT ⟨(by show 1 ≤ sizeLine; decide), fun D hD => fin (ExtN.refl H) hT hD ?_⟩
      simp [tells, act, ansV, nV, Book.speaker, Book.ruler, hset, only]
end
end AG
namespace AG
open PySem PySem.Spec PyProof.Rows L2 LamX Km499
/-! ### a field stored -/
theorem put_at0 {k : Str} {v x : V} : ∀ {l : List (Str × V)} (i : Nat), l[i]? = some (k, x) → ((l.map (·.1)).take i).all (fun g => !(k == g)) = true → putF k v l = l.set i (k, v)
  | [], i, h, _ => by simp at h
  | (g, u) :: r, 0, h, _ => by
    have e : (g, u) = (k, x) := Option.some.inj h
    cases e
    exact if_pos rfl
  | (g, u) :: r, i + 1, h, d => by
    have d' : (!(k == g) && ((r.map (·.1)).take i).all (fun p => !(k == p))) = true := d
    rw [Bool.and_eq_true] at d'
    have n : ¬ g = k := fun z => by
      rw [z] at d'
      simp at d'
    show (if g = k then (g, v) :: r else (g, u) :: putF k v r) = (g, u) :: r.set i (k, v)
    rw [if_neg n, put_at0 i h d'.2]
theorem put_at {k : Str} {v x : V} {l : List (Str × V)} (ns : List Str) (hn : l.map (·.1) = ns) (i : Nat) (h : l[i]? = some (k, x)) (d : (ns.take i).all (fun g => !(k == g)) = true) : putF k v l = l.set i (k, v) :=
  put_at0 i h (by rw [hn]; exact d)
section
variable (m : Man) (b : Book) (l : Addr)
theorem mP_dead : putF "lives" (.bl false) (mF m) = mF { m with alive := false } := put_at mN (mF_n m) 2 rfl (by decide +kernel)
theorem mG_lives (a c d e f v : V) : putF "lives" v (mG a c d e f) = mG a c v e f := put_at mN rfl 2 rfl (by decide +kernel)
theorem mG_set (a c d e f v : V) : putF "age_set" v (mG a c d e f) = mG a c d v f := put_at mN rfl 3 rfl (by decide +kernel)
theorem mG_joined (a c d e f v : V) : putF "joined" v (mG a c d e f) = mG a c d e v := put_at mN rfl 4 rfl (by decide +kernel)
theorem pP_men (a : Addr) : putF "men" (.ref a) (pF b l) = pF b a := put_at pN (pF_n b l) 6 rfl (by decide +kernel)
theorem pP_year (y : Nat) : putF "year" (.int (y : Int)) (pF b l) = pF { b with year := y } l := put_at pN (pF_n b l) 5 rfl (by decide +kernel)
theorem pP_behind (k : Nat) : putF "behind" (.int (k : Int)) (pF b l) = pF { b with behind := k } l := put_at pN (pF_n b l) 7 rfl (by decide +kernel)
theorem pP_office (g : Nat) : putF "office" (.int (g : Int)) (pF b l) = pF { b with rules := g } l := put_at pN (pF_n b l) 8 rfl (by decide +kernel)
end
/-! ### the people changed -/
section
variable {CP CM p l : Addr} {as : List Addr} {b b' : Book} {H H' : Hp}
/-- what does not belong to the people stays -/
def Kept (F : List Addr) (H H' : Hp) : Prop := ∀ x o, H x = some o → x ∉ F → H' x = some o
theorem Kept.of_same {F : List Addr} (s : Same H H') : Kept F H H' := fun x o e _ => s x o e
theorem Kept.upd {F : List Addr} {a : Addr} {o : HO} (h : a ∈ F) : Kept F H (L2.upd H a o) := fun x u e n => by
  rw [upd_ne (fun z => n (by rw [z]; exact h))]
  exact e
theorem Kept.trans {F : List Addr} {H1 H2 : Hp} (a : Kept F H H1) (c : Kept F H1 H2) : Kept F H H2 := fun x o e n => c x o (a x o e n) n
theorem PAt.ne_pl (P : PAt CP CM H p l as b) : p ≠ l := by
  obtain ⟨dx, h⟩ := P.obj
  exact ne_of h P.lst (by intro z; cases z)
theorem PAt.ne_pa (P : PAt CP CM H p l as b) (hc : CP ≠ CM) {i : Nat} {a : Addr} (e : as[i]? = some a) : p ≠ a := by
  obtain ⟨dx, h⟩ := P.obj
  obtain ⟨dy, h'⟩ := P.men i a e
  exact ne_of h h' (by intro z; injection z with z; exact hc z)
theorem PAt.ne_la (P : PAt CP CM H p l as b) {i : Nat} {a : Addr} (e : as[i]? = some a) : l ≠ a := by
  obtain ⟨dy, h'⟩ := P.men i a e
  exact ne_of P.lst h' (by intro z; cases z)
/-- a field of the people's own is stored -/
theorem PAt.setP (P : PAt CP CM H p l as b) (hc : CP ≠ CM) {dx : Addr} (hm : b'.men = b.men) (wf : WF b') : PAt CP CM (upd H p (.ins CP dx (pF b' l))) p l as b' := by
  have hat : ∀ i, b'.at_ i = b.at_ i := fun i => by unfold Book.at_; rw [hm]
  refine ⟨⟨dx, upd_same⟩, by rw [upd_ne P.ne_pl.symm]; exact P.lst, by rw [P.len]; unfold Book.n; rw [hm], fun i a e => ?_, P.nd, wf⟩
  obtain ⟨dy, h⟩ := P.men i a e
  exact ⟨dy, by rw [upd_ne (P.ne_pa hc e).symm, hat]; exact h⟩
/-- a man's field is stored -/
theorem PAt.setM (P : PAt CP CM H p l as b) (hc : CP ≠ CM) {dx a : Addr} {i : Nat} {m : Man} (e : as[i]? = some a) (wf : WF (b.set_ i m)) : PAt CP CM (upd H a (.ins CM dx (mF m))) p l as (b.set_ i m) := by
  obtain ⟨dp, hp⟩ := P.obj
  have hi : i < b.men.length := by
    have h1 := (List.getElem?_eq_some_iff.mp e).1
    rw [P.len] at h1
    exact h1
  refine ⟨⟨dp, by rw [upd_ne (P.ne_pa hc e)]; exact hp⟩, by rw [upd_ne (P.ne_la e)]; exact P.lst, by rw [P.len]; unfold Book.n Book.set_; simp, fun j a' ej => ?_, P.nd, wf⟩
  by_cases hj : j = i
  · subst hj
    have ea : a' = a := Option.some.inj (ej.symm.trans e)
    subst ea
    refine ⟨dx, ?_⟩
    have em : (b.set_ j m).at_ j = m := by
      unfold Book.set_ Book.at_
      simp [hi]
    rw [em, upd_same]
  · obtain ⟨dy, h⟩ := P.men j a' ej
    have na : a' ≠ a := fun z => by
      subst z
      exact hj (by
        have h1 := (List.getElem?_eq_some_iff.mp ej)
        have h2 := (List.getElem?_eq_some_iff.mp e)
        obtain ⟨x1, y1⟩ := h1
        obtain ⟨x2, y2⟩ := h2
        exact (List.getElem_inj P.nd).mp (y1.trans y2.symm))
    refine ⟨dy, ?_⟩
    have em : (b.set_ i m).at_ j = b.at_ j := by
      unfold Book.set_ Book.at_
      simp [Ne.symm hj]
    rw [em, upd_ne na]
    exact h
end
/-- what a call makes of the people -/
def turns (b : Book) (c : Call) : Book := (act ⟨b, [], []⟩ c).1.now
/-- a change: the people, what is given -/
def spC (K : PySem.W.Frag) (CP CM : Addr) (n : Nat) (c : List Nat → Call) : Sp := fun vs H Q _ => ∃ p l as b g xs, vs = [.ref p, .ref g] ∧ PAt CP CM H p l as b ∧ SqL K H g (nV xs) ∧ xs.length = n ∧
  ∀ H' D as', Kept (p :: l :: as) H H' → H D = none → (∀ a ∈ as', a ∈ as ∨ H a = none) → PAt CP CM H' p l as' (turns b (c xs)) → H' D = some (.lst (ansV (tells b (c xs)))) → Q (.ref D) H'
section
variable {P : Program} {w : World} {K : PySem.W.Frag} {mg : Str → Option Value} {base : Heap} {CP CM : Addr}
/-- it is refused: all stays -/
theorem fin_no {H : Hp} {p l D : Addr} {as : List Addr} {b : Book} {c : Call} {vs : List V} {Q : VK} (hP : PAt CP CM H p l as b) (hD : H D = none)
    (q : ∀ H' D as', Kept (p :: l :: as) H H' → H D = none → (∀ a ∈ as', a ∈ as ∨ H a = none) → PAt CP CM H' p l as' (turns b c) → H' D = some (.lst (ansV (tells b c))) → Q (.ref D) H')
    (e : vs = ansV (tells b c)) (eb : turns b c = b) : Q (.ref D) (upd H D (.lst vs)) := by
  refine q _ D as (Kept.of_same (same_new hD)) hD (fun a h => .inl h) ?_ (by rw [upd_same, e])
  rw [eb]
  exact hP.same (same_new hD)
/-- it is done, the men's objects as they were -/
theorem fin_do {H H1 : Hp} {p l D : Addr} {as : List Addr} {b : Book} {c : Call} {vs : List V} {Q : VK} (k : Kept (p :: l :: as) H H1) (hf : ∀ x, H1 x = none → H x = none) (hP : PAt CP CM H1 p l as (turns b c)) (hD : H1 D = none)
    (q : ∀ H' D as', Kept (p :: l :: as) H H' → H D = none → (∀ a ∈ as', a ∈ as ∨ H a = none) → PAt CP CM H' p l as' (turns b c) → H' D = some (.lst (ansV (tells b c))) → Q (.ref D) H')
    (e : vs = ansV (tells b c)) : Q (.ref D) (upd H1 D (.lst vs)) :=
  q _ D as (k.trans (Kept.of_same (same_new hD))) (hf D hD) (fun a h => .inl h) (hP.same (same_new hD)) (by rw [upd_same, e])
theorem upd_free {H : Hp} {a : Addr} {o : HO} (x : Addr) (h : upd H a o x = none) : H x = none := by
  by_cases e : x = a
  · rw [e, upd_same] at h
    cases h
  · rwa [upd_ne e] at h
end
end AG
namespace AG
open PySem PySem.Spec PyProof.Rows L2 LamX Km499
abbrev sCDies : Stmt := top 32
abbrev sCPass : Stmt := top 36
abbrev sCBehind : Stmt := top 37
abbrev sCOffice : Stmt := top 38
theorem WF.pass {b : Book} (h : WF b) {n : Nat} (hn : b.year + n ≤ 400) : WF { b with year := b.year + n } := by
  refine ⟨h.t1, h.t2, h.g1, h.g2, h.n1, h.n2, h.lh, h.h60, hn, h.ru, h.m, fun i hi => Nat.le_trans (h.bo i hi) (Nat.le_add_right _ _), h.fa, fun i s hi e => Nat.le_trans (h.se i s hi e) ?_, h.jo⟩
  exact Nat.div_le_div_right (Nat.le_add_right _ _)
theorem WF.behind {b : Book} (h : WF b) (k : Nat) : WF { b with behind := k } := ⟨h.t1, h.t2, h.g1, h.g2, h.n1, h.n2, h.lh, h.h60, h.y, h.ru, h.m, h.bo, h.fa, h.se, h.jo⟩
theorem WF.office {b : Book} (h : WF b) {g : Nat} (hg : g < b.grades) : WF { b with rules := g } := ⟨h.t1, h.t2, h.g1, h.g2, h.n1, h.n2, h.lh, h.h60, h.y, hg, h.m, h.bo, h.fa, h.se, h.jo⟩
/-- a man with the same birth and father, and a set that has come in -/
theorem WF.man {b : Book} (h : WF b) {i : Nat} {m : Man} (h1 : m.born = (b.at_ i).born) (h2 : m.father = (b.at_ i).father) (h3 : ∀ s, m.set = some s → s ≤ b.newest b.year) (h4 : i < b.n → m.set = none → m.joined = 0) : WF (b.set_ i m) := by
  have hn : (b.set_ i m).n = b.n := by unfold Book.n Book.set_; simp
  have at_ : ∀ j, j < b.n → (b.set_ i m).at_ j = if j = i then m else b.at_ j := fun j hj => by
    have hj' : j < b.men.length := hj
    unfold Book.set_ Book.at_
    by_cases e : j = i
    · subst e
      rw [if_pos rfl]
      simp [hj']
    · rw [if_neg e]
      simp [Ne.symm e]
  refine ⟨h.t1, h.t2, h.g1, h.g2, h.n1, h.n2, h.lh, h.h60, h.y, h.ru, ?_, fun j hj => ?_, fun j q hj e => ?_, fun j s hj e => ?_, fun j hj e => ?_⟩
  · have := h.m
    unfold Book.set_
    simpa using this
  · rw [hn] at hj
    rw [at_ j hj]
    by_cases e : j = i
    · rw [if_pos e, h1, ← e]
      exact h.bo j hj
    · rw [if_neg e]
      exact h.bo j hj
  · rw [hn] at hj
    rw [at_ j hj] at e
    by_cases e' : j = i
    · rw [if_pos e', h2, ← e'] at e
      exact h.fa j q hj e
    · rw [if_neg e'] at e
      exact h.fa j q hj e
  · rw [hn] at hj
    rw [at_ j hj] at e
    by_cases e' : j = i
    · rw [if_pos e'] at e
      exact h3 s e
    · rw [if_neg e'] at e
      exact h.se j s hj e
  · rw [hn] at hj
    rw [at_ j hj] at e ⊢
    by_cases e' : j = i
    · rw [if_pos e'] at e ⊢
      exact h4 (e' ▸ hj) e
    · rw [if_neg e'] at e ⊢
      exact h.jo j hj e
section
variable {P : Program} {w : World} {K : PySem.W.Frag} {mg : Str → Option Value} {base : Heap} {CP CM : Addr}
theorem scCBehind : FnScope ["people", "given", "before"] ["people", "given"] (defScope sCBehind) := ⟨rfl, rfl, rfl, by decide +kernel, rfl, by decide +kernel, by decide +kernel⟩
theorem ok_cBehind {f : Addr} {fd : FuncData} (F : Fun K "pp_behind" "pp_behind" sCBehind f fd) (T : TxS K mg CP CM) : FnOk P w K mg base CX0 1 f fd ["people", "given"] (spC K CP CM 1 fun xs => .behind (xs.getD 0 0)) := by
  refine F.ok scCBehind (fun vs H Q E h => ?_) (fun cdv A outer s H vs Q E hr h => ?_)
  · obtain ⟨p, l, as, b, g, xs, rfl, _⟩ := h
    rfl
  · obtain ⟨p, l, as, b, g, xs, rfl, hP, hS, hn, q⟩ := h
    obtain ⟨x, rfl⟩ : ∃ x, xs = [x] := List.length_eq_one_iff.mp hn
    obtain ⟨t12, c12⟩ := T.cs ("MOST_BEHIND", 12) (by decide +kernel)
    obtain ⟨t17, c17⟩ := T.cs ("ALREADY_SO", -17) (by decide +kernel)
    obtain ⟨t22, c22⟩ := T.cs ("OUT_OF_BOUNDS", -22) (by decide +kernel)
    refine ⟨_, pss_cons (ps_if (pt_not (pt_chain op_le op_le pe_int (pe_ix ix_list (pv 1) pe_int (fun _ _ => rfl)) (pe_glob (v := .int 12) (by rfl) c12 ⟨_, rfl⟩))) (pss_one (ps_ret (pe_lst (pa_cons (pe_glob (v := .int (-22)) (by rfl) c22 ⟨_, rfl⟩) pa_nil)))) pss_nil)
      (pss_cons (ps_set (i := 2) scCBehind.nd rfl (Or.inl rfl) (pe_fld (pv 0) rfl))
      (pss_cons (ps_if (pt_cmpR op_eq (pe_ix ix_list (pv 1) pe_int (fun _ _ => rfl)) (pv 2) (nomark _)) (pss_one (ps_ret (pe_lst (pa_cons (pe_glob (v := .int (-17)) (by rfl) c17 ⟨_, rfl⟩) pa_nil)))) pss_nil)
      (pss_cons (ps_fld (pv 0) (pe_ix ix_list (pv 1) pe_int (fun _ _ => rfl)) rfl)
      (pss_one (ps_ret (pe_lst (pa_cons (pv 2) pa_nil))))))), ?_⟩
    refine ⟨_, rfl, g, _, _, .int x, rfl, rfl, hS, rfl, _, _, rfl, rfl, _, rfl, ?_⟩
    have no : ∀ {D : Addr}, (x = 0 ∨ 12 < x) → H D = none → Q (.ref D) (upd H D (.lst [.int (-22)])) := fun {D} hx hD => fin_no hP hD q (by
      have e : act ⟨b, [], []⟩ (.behind x) = (⟨b, [], []⟩, only (-22)) := if_pos hx
      show _ = ansV (act ⟨b, [], []⟩ (.behind x)).2
      rw [e]
      rfl) (by
      have e : act ⟨b, [], []⟩ (.behind x) = (⟨b, [], []⟩, only (-22)) := if_pos hx
      show (act ⟨b, [], []⟩ (.behind x)).1.now = b
      rw [e])
    refine ite2 (fun c1 => ?_) (fun c1 => ?_)
    · have h1 : (1 : Int) ≤ (x : Int) := of_decide_eq_true c1
      refine ⟨_, _, rfl, rfl, _, rfl, ?_⟩
      refine ite2 (fun c2 => ?_) (fun c2 => ?_)
      · have h2 : ¬ (x : Int) ≤ 12 := by simpa using c2
        exact ⟨(by show 1 ≤ sizeLine; decide), fun D hD => no (by omega) hD⟩
      · have h2 : (x : Int) ≤ 12 := by simpa using c2
        have hx : ¬ (x = 0 ∨ 12 < x) := by omega
        refine ⟨_, rfl, fP T hP (by decide +kernel) (pF_behind b l) ?_⟩
        refine ⟨_, rfl, g, _, _, .int x, rfl, rfl, hS, rfl, _, rfl, rfl, _, rfl, ?_⟩
        by_cases h3 : x = b.behind
        · rw [decide_eq_true (by rw [h3] : V.int (x : Int) = V.int (b.behind : Int))]
          have e : act ⟨b, [], []⟩ (.behind x) = (⟨b, [], []⟩, only (-17)) := (if_neg hx).trans (if_pos h3)
          refine iteT ⟨(by show 1 ≤ sizeLine; decide), fun D hD => fin_no hP hD q ?_ ?_⟩
          · show _ = ansV (act ⟨b, [], []⟩ (.behind x)).2
            rw [e]
            rfl
          · show (act ⟨b, [], []⟩ (.behind x)).1.now = b
            rw [e]
        · rw [decide_eq_false (fun z => h3 (by have := V.int.inj z; omega) : ¬ V.int (x : Int) = V.int (b.behind : Int))]
          have e : act ⟨b, [], []⟩ (.behind x) = ((⟨b, [], []⟩ : Desk).become { b with behind := x }, only (n2i b.behind)) := (if_neg hx).trans (if_neg h3)
          obtain ⟨dx, hp⟩ := id hP.obj
          refine iteF ⟨_, rfl, g, _, _, .int x, rfl, rfl, hS, rfl, _, rfl, p, CP, dx, _, rfl, hp, T.clP, T.naP _ (by decide +kernel), (by show 9 < 1000; decide), ?_⟩
          rw [pP_behind]
          refine ⟨_, rfl, (by show 1 ≤ sizeLine; decide), fun D hD => fin_do (Kept.upd (.head _)) (fun y => upd_free y) ?_ hD q ?_⟩
          · have et : turns b (.behind x) = { b with behind := x } := by
              show (act ⟨b, [], []⟩ (.behind x)).1.now = _
              rw [e]
              rfl
            show PAt CP CM _ p l as (turns b (.behind x))
            rw [et]
            exact hP.setP T.ne rfl (hP.wf.behind x)
          · show _ = ansV (act ⟨b, [], []⟩ (.behind x)).2
            rw [e]
            rfl
    · refine ⟨_, rfl, ?_⟩
      have h1 : ¬ (1 : Int) ≤ (x : Int) := fun z => c1 (decide_eq_true z)
      exact iteT ⟨(by show 1 ≤ sizeLine; decide), fun D hD => no (by omega) hD⟩
end
end AG
namespace AG
open PySem PySem.Spec PyProof.Rows L2 LamX Km499
section
variable {P : Program} {w : World} {K : PySem.W.Frag} {mg : Str → Option Value} {base : Heap} {CP CM : Addr}
theorem no_of {H : Hp} {p l D : Addr} {as : List Addr} {b : Book} {c : Call} {vs : List V} {Q : VK} {a : Ans} (e : act ⟨b, [], []⟩ c = (⟨b, [], []⟩, a)) (ev : vs = ansV a) (hP : PAt CP CM H p l as b) (hD : H D = none)
    (q : ∀ H' D as', Kept (p :: l :: as) H H' → H D = none → (∀ a ∈ as', a ∈ as ∨ H a = none) → PAt CP CM H' p l as' (turns b c) → H' D = some (.lst (ansV (tells b c))) → Q (.ref D) H') : Q (.ref D) (upd H D (.lst vs)) :=
  fin_no hP hD q (by unfold tells; rw [e]; exact ev) (by unfold turns; rw [e])
theorem do_of {H H1 : Hp} {p l D : Addr} {as : List Addr} {b b' : Book} {c : Call} {vs : List V} {Q : VK} {a : Ans} (e : act ⟨b, [], []⟩ c = ((⟨b, [], []⟩ : Desk).become b', a)) (ev : vs = ansV a)
    (k : Kept (p :: l :: as) H H1) (hf : ∀ x, H1 x = none → H x = none) (hP : PAt CP CM H1 p l as b') (hD : H1 D = none)
    (q : ∀ H' D as', Kept (p :: l :: as) H H' → H D = none → (∀ a ∈ as', a ∈ as ∨ H a = none) → PAt CP CM H' p l as' (turns b c) → H' D = some (.lst (ansV (tells b c))) → Q (.ref D) H') : Q (.ref D) (upd H1 D (.lst vs)) :=
  fin_do k hf (by unfold turns; rw [e]; exact hP) hD q (by unfold tells; rw [e]; exact ev)
theorem scCOffice : FnScope ["people", "given", "before"] ["people", "given"] (defScope sCOffice) := ⟨rfl, rfl, rfl, by decide +kernel, rfl, by decide +kernel, by decide +kernel⟩
theorem ok_cOffice {f fG : Addr} {fd fdG : FuncData} (F : Fun K "pp_office" "pp_office" sCOffice f fd) (T : TxS K mg CP CM) (MG : MethAt K CP "has_grade" "People.has_grade" sHasGrade fG fdG ["self", "grade"]) :
    FnOk P w K mg base CX0 2 f fd ["people", "given"] (spC K CP CM 1 fun xs => .office (xs.getD 0 0)) := by
  have GG : FnOk P w K mg base CX0 1 fG fdG ["self", "grade"] (spHasGrade CP CM) := ok_hasGrade MG.fn T
  refine F.ok scCOffice (fun vs H Q E h => ?_) (fun cdv A outer s H vs Q E hr h => ?_)
  · obtain ⟨p, l, as, b, g, xs, rfl, _⟩ := h
    rfl
  · obtain ⟨p, l, as, b, g, xs, rfl, hP, hS, hn, q⟩ := h
    obtain ⟨x, rfl⟩ : ∃ x, xs = [x] := List.length_eq_one_iff.mp hn
    obtain ⟨t17, c17⟩ := T.cs ("ALREADY_SO", -17) (by decide +kernel)
    obtain ⟨t22, c22⟩ := T.cs ("OUT_OF_BOUNDS", -22) (by decide +kernel)
    refine ⟨_, pss_cons (ps_if (pt_not (pt_val (pe_meth (pv 0) T.clP MG.mt GG hr MG.bi .nil pass0 (pa_cons (pe_ix ix_list (pv 1) pe_int (fun _ _ => rfl)) pa_nil)))) (pss_one (ps_ret (pe_lst (pa_cons (pe_glob (v := .int (-22)) (by rfl) c22 ⟨_, rfl⟩) pa_nil)))) pss_nil)
      (pss_cons (ps_set (i := 2) scCOffice.nd rfl (Or.inl rfl) (pe_fld (pv 0) rfl))
      (pss_cons (ps_if (pt_cmpR op_eq (pe_ix ix_list (pv 1) pe_int (fun _ _ => rfl)) (pv 2) (nomark _)) (pss_one (ps_ret (pe_lst (pa_cons (pe_glob (v := .int (-17)) (by rfl) c17 ⟨_, rfl⟩) pa_nil)))) pss_nil)
      (pss_cons (ps_fld (pv 0) (pe_ix ix_list (pv 1) pe_int (fun _ _ => rfl)) rfl)
      (pss_one (ps_ret (pe_lst (pa_cons (pv 2) pa_nil))))))), ?_⟩
    refine ⟨_, rfl, cP hP (by decide +kernel) ⟨_, rfl, g, _, _, .int x, rfl, rfl, hS, rfl, p, l, as, b, x, rfl, hP, _, rfl, ?_⟩⟩
    rw [dec_lt]
    by_cases hg : x < b.grades
    · have hng : ¬ b.grades ≤ x := by omega
      rw [decide_eq_true hg]
      refine iteF ⟨_, rfl, fP T hP (by decide +kernel) (pF_office b l) ?_⟩
      refine ⟨_, rfl, g, _, _, .int x, rfl, rfl, hS, rfl, _, rfl, rfl, _, rfl, ?_⟩
      by_cases h3 : x = b.rules
      · rw [decide_eq_true (by rw [h3] : V.int (x : Int) = V.int (b.rules : Int))]
        exact iteT ⟨(by show 1 ≤ sizeLine; decide), fun D hD => no_of (c := .office x) ((if_neg hng).trans (if_pos h3)) rfl hP hD q⟩
      · rw [decide_eq_false (fun z => h3 (by have := V.int.inj z; omega) : ¬ V.int (x : Int) = V.int (b.rules : Int))]
        obtain ⟨dx, hp⟩ := id hP.obj
        refine iteF ⟨_, rfl, g, _, _, .int x, rfl, rfl, hS, rfl, _, rfl, p, CP, dx, _, rfl, hp, T.clP, T.naP _ (by decide +kernel), (by show 9 < 1000; decide), ?_⟩
        rw [pP_office]
        exact ⟨_, rfl, (by show 1 ≤ sizeLine; decide), fun D hD => do_of (c := .office x) ((if_neg hng).trans (if_neg h3)) rfl (Kept.upd (.head _)) (fun y => upd_free y) (hP.setP T.ne rfl (hP.wf.office hg)) hD q⟩
    · rw [decide_eq_false hg]
      exact iteT ⟨(by show 1 ≤ sizeLine; decide), fun D hD => no_of (c := .office x) (if_pos (by omega : b.grades ≤ x)) rfl hP hD q⟩
theorem scCPass : FnScope ["people", "given", "years", "newest_before"] ["people", "given"] (defScope sCPass) := ⟨rfl, rfl, rfl, by decide +kernel, rfl, by decide +kernel, by decide +kernel⟩
theorem ok_cPass {f fN : Addr} {fd fdN : FuncData} (F : Fun K "pp_pass" "pp_pass" sCPass f fd) (T : TxS K mg CP CM) (MN : MethAt K CP "newest" "People.newest" sNewest fN fdN ["self"]) (GN : FnOk P w K mg base CX0 2 fN fdN ["self"] (spNewest CP CM)) :
    FnOk P w K mg base CX0 3 f fd ["people", "given"] (spC K CP CM 1 fun xs => .pass (xs.getD 0 0)) := by
  refine F.ok scCPass (fun vs H Q E h => ?_) (fun cdv A outer s H vs Q E hr h => ?_)
  · obtain ⟨p, l, as, b, g, xs, rfl, _⟩ := h
    rfl
  · obtain ⟨p, l, as, b, g, xs, rfl, hP, hS, hn, q⟩ := h
    obtain ⟨x, rfl⟩ : ∃ x, xs = [x] := List.length_eq_one_iff.mp hn
    obtain ⟨t4, c4⟩ := T.cs ("LAST_YEAR", 400) (by decide +kernel)
    obtain ⟨t22, c22⟩ := T.cs ("OUT_OF_BOUNDS", -22) (by decide +kernel)
    refine ⟨_, pss_cons (ps_set (i := 2) scCPass.nd rfl (Or.inl rfl) (pe_ix ix_list (pv 1) pe_int (fun _ _ => rfl)))
      (pss_cons (ps_if (PW.pt (pw_or (pt_cmpR op_eq (pv 2) pe_int (nomark _)) (pw_or1 (pt_cmpR op_gt (pe_op op_add (pe_fld (pv 0) rfl) (pv 2)) (pe_glob (v := .int 400) (by rfl) c4 ⟨_, rfl⟩) (nomark _))))) (pss_one (ps_ret (pe_lst (pa_cons (pe_glob (v := .int (-22)) (by rfl) c22 ⟨_, rfl⟩) pa_nil)))) pss_nil)
      (pss_cons (ps_set (i := 3) scCPass.nd rfl (Or.inl rfl) (pe_meth0 (pv 0) T.clP MN.mt GN hr MN.bi .nil pass0))
      (pss_cons (ps_fldaug (pv 0) (pv 2) in_add)
      (pss_one (ps_ret (pe_lst (pa_cons (pe_fld (pv 0) rfl) (pa_cons (pe_op op_sub (pe_meth0 (pv 0) T.clP MN.mt GN hr MN.bi .nil pass0) (pv 3)) pa_nil)))))))), ?_⟩
    refine ⟨_, rfl, g, _, _, .int x, rfl, rfl, hS, rfl, ?_⟩
    refine ⟨_, rfl, rfl, _, rfl, ?_⟩
    have no : ∀ {D : Addr}, (x = 0 ∨ LAST < b.year + x) → H D = none → Q (.ref D) (upd H D (.lst [.int (-22)])) := fun {D} hx hD => no_of (c := .pass x) (if_pos hx) rfl hP hD q
    by_cases h0 : x = 0
    · rw [decide_eq_true (by rw [h0]; rfl : V.int (x : Int) = V.int 0)]
      exact iteT (iteT ⟨(by show 1 ≤ sizeLine; decide), fun D hD => no (.inl h0) hD⟩)
    · rw [decide_eq_false (fun z => h0 (by have := V.int.inj z; omega) : ¬ V.int (x : Int) = V.int 0)]
      refine iteF ⟨_, rfl, fP T hP (by decide +kernel) (pF_year b l) ⟨_, rfl, _, _, rfl, rfl, _, _, rfl, rfl, _, rfl, ?_⟩⟩
      refine ite2 (fun c1 => ?_) (fun c1 => ?_)
      · have h1 : (400 : Int) < (b.year : Int) + (x : Int) := of_decide_eq_true c1
        exact ⟨(by show 1 ≤ sizeLine; decide), fun D hD => no (.inr (show 400 < b.year + x by omega)) hD⟩
      · have h1 : ¬ (400 : Int) < (b.year : Int) + (x : Int) := fun z => c1 (decide_eq_true z)
        have hx : ¬ (x = 0 ∨ LAST < b.year + x) := fun z => z.elim h0 fun z => by have z' : 400 < b.year + x := z; omega
        refine ⟨_, rfl, cP hP (by decide +kernel) ⟨p, l, as, b, rfl, hP, ?_⟩⟩
        obtain ⟨dx, hp⟩ := id hP.obj
        refine ⟨_, rfl, p, CP, dx, _, _, rfl, hp, T.clP, T.naP _ (by decide +kernel), pF_year b l, _, rfl, _, _, rfl, rfl, dx, _, hp, (by show 9 < 1000; decide), ?_⟩
        have ey : (b.year : Int) + (x : Int) = ((b.year + x : Nat) : Int) := by omega
        rw [ey, pP_year]
        have hP1 : PAt CP CM (upd H p (.ins CP dx (pF { b with year := b.year + x } l))) p l as { b with year := b.year + x } := hP.setP T.ne rfl (hP.wf.pass (by omega))
        refine ⟨_, rfl, fP T hP1 (by decide +kernel) (pF_year _ l) ?_⟩
        refine ⟨_, rfl, cP hP1 (by decide +kernel) ⟨p, l, as, _, rfl, hP1, _, rfl, _, _, rfl, rfl, (by show 2 ≤ sizeLine; decide), fun D hD => ?_⟩⟩
        refine do_of (c := .pass x) (if_neg hx) ?_ (Kept.upd (.head _)) (fun y => upd_free y) hP1 hD q
        have em : b.newest b.year ≤ b.newest (b.year + x) := Nat.div_le_div_right (Nat.le_add_right _ _)
        have e2 : ((b.newest (b.year + x) : Nat) : Int) - ((b.newest b.year : Nat) : Int) = ((b.newest (b.year + x) - b.newest b.year : Nat) : Int) := by omega
        show [V.int ((b.year + x : Nat) : Int), V.int (((b.newest (b.year + x) : Nat) : Int) - ((b.newest b.year : Nat) : Int))] = _
        rw [e2]
        rfl
theorem scCDies : FnScope ["people", "given", "number", "man"] ["people", "given"] (defScope sCDies) := ⟨rfl, rfl, rfl, by decide +kernel, rfl, by decide +kernel, by decide +kernel⟩
theorem at_set_same {b : Book} {i : Nat} {m : Man} (hi : i < b.n) : (b.set_ i m).at_ i = m := by
  have hi' : i < b.men.length := hi
  unfold Book.set_ Book.at_
  simp [hi']
theorem ok_cDies {f fH fA : Addr} {fd fdH fdA : FuncData} (F : Fun K "pp_dies" "pp_dies" sCDies f fd) (T : TxS K mg CP CM) (MH : MethAt K CP "has_man" "People.has_man" sHasMan fH fdH ["self", "number"]) (MA : MethAt K CP "age_of" "People.age_of" sAgeOf fA fdA ["self", "man"]) :
    FnOk P w K mg base CX0 2 f fd ["people", "given"] (spC K CP CM 1 fun xs => .dies (xs.getD 0 0)) := by
  have GH : FnOk P w K mg base CX0 1 fH fdH ["self", "number"] (spHasMan CP CM) := ok_hasMan MH.fn T
  have GA : FnOk P w K mg base CX0 1 fA fdA ["self", "man"] (spAgeOf CP CM) := ok_ageOf MA.fn T
  refine F.ok scCDies (fun vs H Q E h => ?_) (fun cdv A outer s H vs Q E hr h => ?_)
  · obtain ⟨p, l, as, b, g, xs, rfl, _⟩ := h
    rfl
  · obtain ⟨p, l, as, b, g, xs, rfl, hP, hS, hn, q⟩ := h
    obtain ⟨x, rfl⟩ : ∃ x, xs = [x] := List.length_eq_one_iff.mp hn
    obtain ⟨t2, c2⟩ := T.cs ("NO_SUCH_MAN", -2) (by decide +kernel)
    obtain ⟨t17, c17⟩ := T.cs ("ALREADY_SO", -17) (by decide +kernel)
    refine ⟨_, pss_cons (ps_set (i := 2) scCDies.nd rfl (Or.inl rfl) (pe_ix ix_list (pv 1) pe_int (fun _ _ => rfl)))
      (pss_cons (ps_if (pt_not (pt_val (pe_meth (pv 0) T.clP MH.mt GH hr MH.bi .nil pass0 (pa_cons (pv 2) pa_nil)))) (pss_one (ps_ret (pe_lst (pa_cons (pe_glob (v := .int (-2)) (by rfl) c2 ⟨_, rfl⟩) pa_nil)))) pss_nil)
      (pss_cons (ps_set (i := 3) scCDies.nd rfl (Or.inl rfl) (pe_ix ix_list (pe_fld (pv 0) rfl) (pv 2) (fun _ _ => rfl)))
      (pss_cons (ps_if (pt_not (pt_val (pe_fld (pv 3) rfl))) (pss_one (ps_ret (pe_lst (pa_cons (pe_glob (v := .int (-17)) (by rfl) c17 ⟨_, rfl⟩) pa_nil)))) pss_nil)
      (pss_cons (ps_fld (pv 3) pe_bl rfl)
      (pss_one (ps_ret (pe_lst (pa_cons (pe_meth (pv 0) T.clP MA.mt GA hr MA.bi .nil pass0 (pa_cons (pv 3) pa_nil)) pa_nil)))))))), ?_⟩
    refine ⟨_, rfl, g, _, _, .int x, rfl, rfl, hS, rfl, ?_⟩
    refine ⟨_, rfl, cP hP (by decide +kernel) ⟨_, rfl, p, l, as, b, x, rfl, hP, _, rfl, ?_⟩⟩
    rw [dec_lt]
    by_cases hi : x < b.n
    · have hno : ¬ b.no x = true := fun z => absurd (of_decide_eq_true z) (by omega)
      rw [decide_eq_true hi]
      refine iteF ?_
      obtain ⟨a, ea, hM⟩ := hP.man hi
      refine ⟨_, rfl, fP T hP (by decide +kernel) (pF_men b l) ⟨_, rfl, l, _, _, .ref a, rfl, rfl, SqL.of hP.lst, hP.item ea, ?_⟩⟩
      refine ⟨_, rfl, fM T hM (by decide +kernel) (mF_lives _) ⟨_, rfl, ?_⟩⟩
      cases hal : (b.at_ x).alive with
      | false => exact iteT ⟨(by show 1 ≤ sizeLine; decide), fun D hD => no_of (c := .dies x) ((if_neg hno).trans (if_pos hal)) rfl hP hD q⟩
      | true =>
        obtain ⟨dm, hm⟩ := id hM
        refine iteF ⟨_, rfl, a, CM, dm, _, rfl, hm, T.clM, T.naM _ (by decide +kernel), (by show 5 < 1000; decide), ?_⟩
        rw [mP_dead]
        have hP1 : PAt CP CM (upd H a (.ins CM dm (mF { b.at_ x with alive := false }))) p l as (b.set_ x { b.at_ x with alive := false }) := hP.setM T.ne ea (hP.wf.man rfl rfl (fun s e => hP.wf.se x s hi e) fun _ e => hP.wf.jo x hi e)
        have hM1 : ManAt CM (upd H a (.ins CM dm (mF { b.at_ x with alive := false }))) a { b.at_ x with alive := false } := ⟨dm, upd_same⟩
        refine ⟨_, rfl, cP hP1 (by decide +kernel) ⟨_, rfl, p, l, as, _, a, _, rfl, hP1, hM1, (by show 1 ≤ sizeLine; decide), fun D hD => ?_⟩⟩
        refine do_of (c := .dies x) ((if_neg hno).trans (if_neg (by rw [hal]; decide))) ?_ (Kept.upd (.tail _ (.tail _ (List.mem_of_getElem? ea)))) (fun y => upd_free y) hP1 hD q
        have hb := hP.wf.bo x hi
        have e5 : ((b.year : Int) - ((b.at_ x).born : Int)) = ((b.age x : Nat) : Int) := by
          unfold Book.age
          omega
        show [V.int ((b.year : Int) - ((b.at_ x).born : Int))] = _
        rw [e5]
        rfl
    · have hno : b.no x = true := decide_eq_true (by omega)
      rw [decide_eq_false hi]
      exact iteT ⟨(by show 1 ≤ sizeLine; decide), fun D hD => no_of (c := .dies x) (if_pos hno) rfl hP hD q⟩
end
end AG
namespace AG
open PySem PySem.Spec PyProof.Rows L2 LamX Km499
abbrev sEnter : Stmt := top 33
abbrev sCJoin : Stmt := top 34
abbrev sCJoinAll : Stmt := top 35
theorem WF.join {b : Book} (h : WF b) (i : Nat) : WF (b.join i) := h.man rfl rfl (fun s e => by
  have e' : some (b.newest b.year) = some s := e
  cases e'
  exact Nat.le_refl _) fun _ e => by cases e
section
variable {P : Program} {w : World} {K : PySem.W.Frag} {mg : Str → Option Value} {base : Heap} {CP CM : Addr}
def spEnter (CP CM : Addr) : Sp := fun vs H Q _ => ∃ p l as b i a, vs = [.ref p, .ref a] ∧ PAt CP CM H p l as b ∧ as[i]? = some a ∧
  ∀ H', Kept (p :: l :: as) H H' → (∀ x, H' x = none → H x = none) → PAt CP CM H' p l as (b.join i) → Q .non H'
theorem scEnter : FnScope ["people", "man"] ["people", "man"] (defScope sEnter) := ⟨rfl, rfl, rfl, by decide +kernel, rfl, by decide +kernel, by decide +kernel⟩
theorem ok_enter {f fN : Addr} {fd fdN : FuncData} (F : Fun K "enter_newest" "enter_newest" sEnter f fd) (T : TxS K mg CP CM) (MN : MethAt K CP "newest" "People.newest" sNewest fN fdN ["self"]) (GN : FnOk P w K mg base CX0 2 fN fdN ["self"] (spNewest CP CM)) :
    FnOk P w K mg base CX0 3 f fd ["people", "man"] (spEnter CP CM) := by
  refine F.ok scEnter (fun vs H Q E h => ?_) (fun cdv A outer s H vs Q E hr h => ?_)
  · obtain ⟨p, l, as, b, i, a, rfl, _⟩ := h
    rfl
  · obtain ⟨p, l, as, b, i, a, rfl, hP, ea, q⟩ := h
    refine ⟨_, pss_cons (ps_fld (pv 1) (pe_meth0 (pv 0) T.clP MN.mt GN hr MN.bi .nil pass0) rfl) (pss_one (ps_fld (pv 1) (pe_fld (pv 0) rfl) rfl)), ?_⟩
    obtain ⟨dm, hm⟩ := hP.men i a ea
    obtain ⟨dp, hp⟩ := hP.obj
    refine ⟨_, rfl, cP hP (by decide +kernel) ⟨p, l, as, b, rfl, hP, _, rfl, a, CM, dm, _, rfl, hm, T.clM, T.naM _ (by decide +kernel), (by show 5 < 1000; decide), ?_⟩⟩
    have em : putF "age_set" (.int ((b.newest b.year : Nat) : Int)) (mF (b.at_ i)) = mG (.int ((b.at_ i).born : Int)) (oV (b.at_ i).father) (.bl (b.at_ i).alive) (.int ((b.newest b.year : Nat) : Int)) (joV (b.at_ i)) := mG_set ..
    rw [em]
    have hp1 : upd H a (.ins CM dm (mG (.int ((b.at_ i).born : Int)) (oV (b.at_ i).father) (.bl (b.at_ i).alive) (.int ((b.newest b.year : Nat) : Int)) (joV (b.at_ i)))) p = some (.ins CP dp (pF b l)) := by
      rw [upd_ne (hP.ne_pa T.ne ea)]
      exact hp
    refine ⟨_, rfl, p, CP, dp, _, _, rfl, hp1, T.clP, T.naP _ (by decide +kernel), pF_year b l, _, rfl, a, CM, dm, _, rfl, upd_same, T.clM, T.naM _ (by decide +kernel), (by show 5 < 1000; decide), ?_⟩
    rw [mG_joined, upd_upd]
    exact q _ (Kept.upd (.tail _ (.tail _ (List.mem_of_getElem? ea)))) (fun y => upd_free y) (hP.setM T.ne (m := { b.at_ i with set := some (b.newest b.year), joined := b.year }) ea (hP.wf.join i))
theorem age_cmp {b : Book} {i : Nat} (h : (b.at_ i).born ≤ b.year) : ageOk b (b.at_ i) = !decide (b.age i < b.low ∨ b.high < b.age i) := by
  unfold ageOk Book.age
  rw [Bool.eq_iff_iff]
  simp
  omega
theorem scCJoin : FnScope ["people", "given", "number", "man"] ["people", "given"] (defScope sCJoin) := ⟨rfl, rfl, rfl, by decide +kernel, rfl, by decide +kernel, by decide +kernel⟩
theorem ok_cJoin {f fH fA fT fE fN : Addr} {fd fdH fdA fdT fdE fdN : FuncData} (F : Fun K "pp_join" "pp_join" sCJoin f fd) (T : TxS K mg CP CM) (MH : MethAt K CP "has_man" "People.has_man" sHasMan fH fdH ["self", "number"]) (MN : MethAt K CP "name_of" "People.name_of" sNameOf fN fdN ["self", "age_set"])
    (AA : FnAt K mg "is_of_age" sOfAge fA fdA ["people", "man"]) (AT : FnAt K mg "is_too_near" sTooNear fT fdT ["people", "number"]) (AE : FnAt K mg "enter_newest" sEnter fE fdE ["people", "man"])
    (GA : FnOk P w K mg base CX0 2 fA fdA ["people", "man"] (spOfAge CP CM)) (GT : FnOk P w K mg base CX0 3 fT fdT ["people", "number"] (spTooNear CP CM)) (GE : FnOk P w K mg base CX0 3 fE fdE ["people", "man"] (spEnter CP CM)) :
    FnOk P w K mg base CX0 4 f fd ["people", "given"] (spC K CP CM 1 fun xs => .join (xs.getD 0 0)) := by
  have GH : FnOk P w K mg base CX0 1 fH fdH ["self", "number"] (spHasMan CP CM) := ok_hasMan MH.fn T
  have GN : FnOk P w K mg base CX0 1 fN fdN ["self", "age_set"] (spNameOf CP CM) := ok_nameOf MN.fn T
  refine F.ok scCJoin (fun vs H Q E h => ?_) (fun cdv A outer s H vs Q E hr h => ?_)
  · obtain ⟨p, l, as, b, g, xs, rfl, _⟩ := h
    rfl
  · obtain ⟨p, l, as, b, g, xs, rfl, hP, hS, hn, q⟩ := h
    obtain ⟨x, rfl⟩ : ∃ x, xs = [x] := List.length_eq_one_iff.mp hn
    obtain ⟨t2, c2⟩ := T.cs ("NO_SUCH_MAN", -2) (by decide +kernel)
    obtain ⟨t13, c13⟩ := T.cs ("TOO_NEAR", -13) (by decide +kernel)
    obtain ⟨t16, c16⟩ := T.cs ("DEAD_OR_NEWBORN", -16) (by decide +kernel)
    obtain ⟨t17, c17⟩ := T.cs ("ALREADY_SO", -17) (by decide +kernel)
    obtain ⟨t22, c22⟩ := T.cs ("OUT_OF_BOUNDS", -22) (by decide +kernel)
    have hr1 : Room 1 _ := hr.mono (by decide)
    have hr2 : Room 2 _ := hr.mono (by decide)
    refine ⟨_, pss_cons (ps_set (i := 2) scCJoin.nd rfl (Or.inl rfl) (pe_ix ix_list (pv 1) pe_int (fun _ _ => rfl)))
      (pss_cons (ps_if (pt_not (pt_val (pe_meth (pv 0) T.clP MH.mt GH hr1 MH.bi .nil pass0 (pa_cons (pv 2) pa_nil)))) (pss_one (ps_ret (pe_lst (pa_cons (pe_glob (v := .int (-2)) (by rfl) c2 ⟨_, rfl⟩) pa_nil)))) pss_nil)
      (pss_cons (ps_set (i := 3) scCJoin.nd rfl (Or.inl rfl) (pe_ix ix_list (pe_fld (pv 0) rfl) (pv 2) (fun _ _ => rfl)))
      (pss_cons (ps_if (pt_not (pt_val (pe_fld (pv 3) rfl))) (pss_one (ps_ret (pe_lst (pa_cons (pe_glob (v := .int (-16)) (by rfl) c16 ⟨_, rfl⟩) pa_nil)))) pss_nil)
      (pss_cons (ps_if (pt_cmp (pc_notN (pe_fld (pv 3) rfl))) (pss_one (ps_ret (pe_lst (pa_cons (pe_glob (v := .int (-17)) (by rfl) c17 ⟨_, rfl⟩) pa_nil)))) pss_nil)
      (pss_cons (ps_if (pt_not (pt_val (pe_call GA hr2 (by rfl) AA.g AA.fn.kp AA.bi .nil pass0 (pa_cons (pv 0) (pa_cons (pv 3) pa_nil))))) (pss_one (ps_ret (pe_lst (pa_cons (pe_glob (v := .int (-22)) (by rfl) c22 ⟨_, rfl⟩) pa_nil)))) pss_nil)
      (pss_cons (ps_if (pt_val (pe_call GT hr (by rfl) AT.g AT.fn.kp AT.bi .nil pass0 (pa_cons (pv 0) (pa_cons (pv 2) pa_nil)))) (pss_one (ps_ret (pe_lst (pa_cons (pe_glob (v := .int (-13)) (by rfl) c13 ⟨_, rfl⟩) pa_nil)))) pss_nil)
      (pss_cons (ps_expr (pe_call GE hr (by rfl) AE.g AE.fn.kp AE.bi .nil pass0 (pa_cons (pv 0) (pa_cons (pv 3) pa_nil))))
      (pss_one (ps_ret (pe_lst (pa_cons (pe_fld (pv 3) rfl) (pa_cons (pe_meth (pv 0) T.clP MN.mt GN hr1 MN.bi .nil pass0 (pa_cons (pe_fld (pv 3) rfl) pa_nil)) pa_nil)))))))))))), ?_⟩
    refine ⟨_, rfl, g, _, _, .int x, rfl, rfl, hS, rfl, ?_⟩
    refine ⟨_, rfl, cP hP (by decide +kernel) ⟨_, rfl, p, l, as, b, x, rfl, hP, _, rfl, ?_⟩⟩
    rw [dec_lt]
    by_cases hi : x < b.n
    · have hno : ¬ b.no x = true := fun z => absurd (of_decide_eq_true z) (by omega)
      -- refused for a reason
      have no : ∀ {D : Addr} {n : Int} {H1 : Hp}, Same H H1 → n < 0 → b.why x = n → H1 D = none → Q (.ref D) (upd H1 D (.lst [.int n])) := fun {D n H1} s1 hn hw hD => by
        have e : act ⟨b, [], []⟩ (.join x) = (⟨b, [], []⟩, only n) := by
          refine (if_neg hno).trans ((if_pos ?_).trans ?_)
          · show b.why x < 0
            rw [hw]
            exact hn
          · show ((⟨b, [], []⟩ : Desk), only (b.why x)) = _
            rw [hw]
        refine q _ D as (Kept.of_same (s1.trans (same_new hD))) (s1.free hD) (fun a h => .inl h) ?_ ?_
        · show PAt CP CM _ p l as (turns b (.join x))
          unfold turns
          rw [e]
          exact hP.same (s1.trans (same_new hD))
        · show _ = some (HO.lst (ansV (tells b (.join x))))
          unfold tells
          rw [e, upd_same]
          rfl
      rw [decide_eq_true hi]
      refine iteF ?_
      obtain ⟨a, ea, hM⟩ := hP.man hi
      refine ⟨_, rfl, fP T hP (by decide +kernel) (pF_men b l) ⟨_, rfl, l, _, _, .ref a, rfl, rfl, SqL.of hP.lst, hP.item ea, ?_⟩⟩
      refine ⟨_, rfl, fM T hM (by decide +kernel) (mF_lives _) ⟨_, rfl, ?_⟩⟩
      cases hal : (b.at_ x).alive with
      | false => exact iteT ⟨(by show 1 ≤ sizeLine; decide), fun D hD => no (Same.refl H) (by decide) (if_pos hal) hD⟩
      | true =>
        have w1 : ¬ (b.at_ x).alive = false := by rw [hal]; decide
        refine iteF ⟨_, rfl, fM T hM (by decide +kernel) (mF_set _) ⟨_, rfl, ?_⟩⟩
        rw [oV_non]
        cases hse : ((b.at_ x).set == none) with
        | false =>
          have w2 : (b.at_ x).set ≠ none := fun z => by rw [z] at hse; cases hse
          exact iteT ⟨(by show 1 ≤ sizeLine; decide), fun D hD => no (Same.refl H) (by decide) ((if_neg w1).trans (if_pos w2)) hD⟩
        | true =>
          have w2 : ¬ (b.at_ x).set ≠ none := fun z => z (by simpa using hse)
          refine iteF ⟨_, rfl, _, rfl, p, l, as, b, a, _, rfl, hP, hM, _, rfl, ?_⟩
          rw [age_cmp (hP.wf.bo x hi)]
          by_cases hag : b.age x < b.low ∨ b.high < b.age x
          · rw [decide_eq_true hag]
            exact iteT ⟨(by show 1 ≤ sizeLine; decide), fun D hD => no (Same.refl H) (by decide) ((if_neg w1).trans ((if_neg w2).trans (if_pos hag))) hD⟩
          · rw [decide_eq_false hag]
            refine iteF ⟨_, rfl, _, rfl, p, l, as, b, x, rfl, hP, hi, fun H1 s1 => ⟨_, rfl, ?_⟩⟩
            have hP1 := hP.same s1
            cases hf : tooNear b x with
            | true =>
              have w3 : b.far x (b.newest b.year) = false := by rw [far_is hP.wf.t1, hf]; rfl
              exact iteT ⟨(by show 1 ≤ sizeLine; decide), fun D hD => no s1 (by decide) ((if_neg w1).trans ((if_neg w2).trans ((if_neg hag).trans (if_pos w3)))) hD⟩
            | false =>
              have w3 : ¬ b.far x (b.newest b.year) = false := by rw [far_is hP.wf.t1, hf]; decide
              have hw : b.why x = 0 := (if_neg w1).trans ((if_neg w2).trans ((if_neg hag).trans (if_neg w3)))
              refine iteF ⟨_, rfl, _, rfl, p, l, as, b, x, a, rfl, hP1, ea, fun H2 k2 f2 hP2 => ?_⟩
              have hj : x < (b.join x).n := by rw [join_n]; exact hi
              have hM2 : ManAt CM H2 a { b.at_ x with set := some (b.newest b.year), joined := b.year } := by
                have z := hP2.men x a ea
                rw [join_at hi, if_pos rfl] at z
                exact z
              refine ⟨_, rfl, fM T hM2 (by decide +kernel) (mF_set _) ?_⟩
              refine ⟨_, rfl, cP hP2 (by decide +kernel) ⟨_, rfl, fM T hM2 (by decide +kernel) (mF_set _) ⟨p, l, as, _, b.newest b.year, rfl, hP2, (by show 2 ≤ sizeLine; decide), fun D hD => ?_⟩⟩⟩
              have e : act ⟨b, [], []⟩ (.join x) = ((⟨b, [], []⟩ : Desk).become (b.join x), ⟨n2i (b.newest b.year), [b.name (b.newest b.year)]⟩) := (if_neg hno).trans (if_neg (by show ¬ b.why x < 0; rw [hw]; decide))
              exact do_of (c := .join x) e rfl ((Kept.of_same s1).trans k2) (fun y z => s1.free (f2 y z)) hP2 hD q
    · have hno : b.no x = true := decide_eq_true (by omega)
      rw [decide_eq_false hi]
      exact iteT ⟨(by show 1 ≤ sizeLine; decide), fun D hD => no_of (c := .join x) (if_pos hno) rfl hP hD q⟩
end
end AG
namespace AG
open PySem PySem.Spec PyProof.Rows L2 LamX Km499
abbrev sManInit : Stmt := inClass (top 3) 0
abbrev sCBorn : Stmt := top 31
section
variable {P : Program} {w : World} {K : PySem.W.Frag} {mg : Str → Option Value} {base : Heap} {CP CM : Addr}
theorem scCJoinAll : FnScope ["people", "given", "joined", "number"] ["people", "given"] (defScope sCJoinAll) := ⟨rfl, rfl, rfl, by decide +kernel, rfl, by decide +kernel, by decide +kernel⟩
theorem Kept.fresh {F : List Addr} {H H' : Hp} {D : Addr} {o : HO} (k : Kept F H H') (h : H D = none) : Kept F H (L2.upd H' D o) := fun x u e n => by
  rw [upd_ne (ne_of_none e h)]
  exact k x u e n
theorem bookJ_wf {b : Book} (h : WF b) : ∀ k, WF (bookJ b k)
  | 0 => h
  | k + 1 => by
    rw [bookJ_succ]
    split
    · exact (bookJ_wf h k).join k
    · exact bookJ_wf h k
theorem ok_cJoinAll {f fM fE fA : Addr} {fd fdM fdE fdA : FuncData} (F : Fun K "pp_join_all" "pp_join_all" sCJoinAll f fd) (T : TxS K mg CP CM)
    (AM : FnAt K mg "may_join" sMayJoin fM fdM ["people", "number"]) (AE : FnAt K mg "enter_newest" sEnter fE fdE ["people", "man"]) (AA : FnAt K mg "counted_and_together" sAsSet fA fdA ["numbers"])
    (GM : FnOk P w K mg base CX0 4 fM fdM ["people", "number"] (spMayJoin CP CM)) (GE : FnOk P w K mg base CX0 3 fE fdE ["people", "man"] (spEnter CP CM)) :
    FnOk P w K mg base CX0 5 f fd ["people", "given"] (spC K CP CM 0 fun _ => .joinAll) := by
  have GA : FnOk P w K mg base CX0 1 fA fdA ["numbers"] (spAsSet K) := ok_asSet AA.fn T
  refine F.ok scCJoinAll (fun vs H Q E h => ?_) (fun cdv A outer s H vs Q E hr h => ?_)
  · obtain ⟨p, l, as, b, g, xs, rfl, _⟩ := h
    rfl
  · obtain ⟨p, l, as, b, g, xs, rfl, hP, hS, hn, q⟩ := h
    obtain ⟨t6, c6⟩ := T.cs ("NOBODY_MAY", -6) (by decide +kernel)
    have hr1 : Room 1 _ := hr.mono (by decide)
    have hr2 : Room 3 _ := hr.mono (by decide)
    refine ⟨_, pss_cons (ps_set (i := 2) scCJoinAll.nd rfl (Or.inl rfl) (pe_lst pa_nil))
      (pss_cons (ps_for PassesOwn.never rfl (pi_range1 (by rfl) T.range (pa_cons (pe_callB call_len_seq (by rfl) T.len PySem.boot_len (pa_cons (pe_fld (pv 0) rfl) pa_nil)) pa_nil)) (pg_name (i := 3) scCJoinAll.nd rfl (Or.inl rfl))
        (pss_one (ps_if (pt_val (pe_call GM hr (by rfl) AM.g AM.fn.kp AM.bi .nil pass0 (pa_cons (pv 0) (pa_cons (pv 3) pa_nil))))
          (pss_cons (ps_expr (pe_call GE hr2 (by rfl) AE.g AE.fn.kp AE.bi .nil pass0 (pa_cons (pv 0) (pa_cons (pe_ix ix_list (pe_fld (pv 0) rfl) (pv 3) (fun _ _ => rfl)) pa_nil))))
            (pss_one (ps_expr (pe_bm PySem.F.plainAttrs_list PySem.F.slot_list_append PySem.F.type_list_append mt_append (pv 2) (pa_cons (pv 3) pa_nil))))) pss_nil)))
      (pss_cons (ps_if (pt_cmpR op_eq (pe_callB call_len_seq (by rfl) T.len PySem.boot_len (pa_cons (pv 2) pa_nil)) pe_int (nomark _)) (pss_one (ps_ret (pe_lst (pa_cons (pe_glob (v := .int (-6)) (by rfl) c6 ⟨_, rfl⟩) pa_nil)))) pss_nil)
      (pss_one (ps_ret (pe_call GA hr1 (by rfl) AA.g AA.fn.kp AA.bi .nil pass0 (pa_cons (pv 2) pa_nil)))))), ?_⟩
    refine ⟨Nat.zero_le _, fun J hJ => ?_⟩
    have s0 : Same H (upd H J (.lst [])) := same_new hJ
    have hP0 := hP.same s0
    have h24 := hP.few
    refine ⟨_, rfl, fP T hP0 (by decide +kernel) (pF_men b l) ⟨l, _, rfl, .inl (SqL.of hP0.lst), ?_⟩⟩
    have hlen : (as.map V.ref).length = b.n := by rw [List.length_map, hP.len]
    rw [hlen]
    refine ⟨_, rfl, by omega, by omega, ?_⟩
    rw [Int.toNat_natCast]
    have nJp : J ≠ p := by
      obtain ⟨dx, hp⟩ := hP.obj
      exact (ne_of_none hp hJ).symm
    have nJ : J ∉ p :: l :: as := fun z => by
      rcases List.mem_cons.mp z with z | z
      · exact nJp z
      · rcases List.mem_cons.mp z with z | z
        · exact (ne_of_none hP.lst hJ).symm z
        · obtain ⟨i, ei⟩ := List.mem_iff_getElem?.mp z
          obtain ⟨dy, hy⟩ := hP.men i J ei
          rw [hJ] at hy
          cases hy
    refine for_range (lo := 0) (n := b.n) (fun k σ H' => (∃ v, σ = [some (.ref p), some (.ref g), some (.ref J), v]) ∧ Kept (p :: l :: as) H H' ∧ (∀ x, H' x = none → H x = none) ∧ PAt CP CM H' p l as (bookJ b k) ∧ H' J = some (.lst (nV ((List.range k).filter (mayJ b)))))
      ⟨⟨none, rfl⟩, Kept.of_same s0, fun x => upd_free x, hP0, upd_same⟩ ?_ ?_
    · rintro k σ H1 hk ⟨⟨v, rfl⟩, k1, f1, hP1, d1⟩
      rw [Int.zero_add]
      have hk1 : k < (bookJ b k).n := by rw [bookJ_n]; exact hk
      refine ⟨_, rfl, _, rfl, p, l, as, bookJ b k, k, rfl, hP1, hk1, fun H2 s2 => ⟨_, rfl, ?_⟩⟩
      have hP2 := hP1.same s2
      have d2 := s2 _ _ d1
      rw [range_filter_succ, bookJ_succ]
      show if mayJ b k = true then _ else _
      refine ite2 (fun c => ?_) (fun c => ?_)
      · rw [if_pos c, if_pos c]
        obtain ⟨a, ea, hM⟩ := hP2.man hk1
        refine ⟨_, rfl, _, rfl, fP T hP2 (by decide +kernel) (pF_men _ l) ⟨_, rfl, l, _, _, .ref a, rfl, rfl, SqL.of hP2.lst, hP2.item ea, ?_⟩⟩
        refine ⟨p, l, as, bookJ b k, k, a, rfl, hP2, ea, fun H3 k3 f3 hP3 => ?_⟩
        have d3 := k3 _ _ d2 nJ
        refine ⟨_, rfl, .inl ⟨rfl, _, SqL.of d3⟩, _, rfl, J, _, _, rfl, rfl, d3, ?_, ?_⟩
        · rw [nV_len]
          have := len_filter_range (mayJ b) k
          exact Nat.lt_of_le_of_lt (by omega : _ ≤ 24) (by decide)
        · refine ⟨⟨_, rfl⟩, (((k1.trans (Kept.of_same s2)).trans k3)).fresh hJ, fun x hx => f1 x (s2.free (f3 x (upd_free x hx))), ?_, ?_⟩
          · obtain ⟨dx, hp⟩ := hP3.obj
            refine ⟨⟨dx, by rw [upd_ne nJp.symm]; exact hp⟩, by rw [upd_ne (fun z => nJ (by rw [← z]; exact .tail _ (.head _)))]; exact hP3.lst, hP3.len, fun i a' e => ?_, hP3.nd, hP3.wf⟩
            obtain ⟨dy, hy⟩ := hP3.men i a' e
            exact ⟨dy, by rw [upd_ne (fun z => nJ (by rw [← z]; exact .tail _ (.tail _ (List.mem_of_getElem? e))))]; exact hy⟩
          · rw [upd_same]
            unfold nV
            rw [List.map_append]
            rfl
      · rw [if_neg c, if_neg c, List.append_nil]
        exact ⟨⟨_, rfl⟩, k1.trans (Kept.of_same s2), fun x hx => f1 x (s2.free hx), hP2, d2⟩
    · rintro σ H1 ⟨⟨v, rfl⟩, k1, f1, hP1, d1⟩
      refine ⟨_, rfl, J, _, rfl, .inl (SqL.of d1), rfl, _, rfl, ?_⟩
      rw [nV_len]
      by_cases h0 : (List.range b.n).filter (mayJ b) = []
      · rw [h0]
        have e : act ⟨b, [], []⟩ .joinAll = (⟨b, [], []⟩, only (-6)) := (act_joinAll b).trans (if_pos h0)
        have none : ∀ i, i < b.n → ¬ mayJ b i = true := fun i hi hm => by
          have : i ∈ (List.range b.n).filter (mayJ b) := List.mem_filter.mpr ⟨List.mem_range.mpr hi, hm⟩
          rw [h0] at this
          cases this
        have eb : ∀ k, k ≤ b.n → bookJ b k = b := by
          intro k
          induction k with
          | zero => intro _; rfl
          | succ k ih =>
            intro hk
            rw [bookJ_succ, if_neg (none k (by omega))]
            exact ih (by omega)
        rw [eb b.n (Nat.le_refl _)] at hP1
        refine iteT ⟨(by show 1 ≤ sizeLine; decide), fun D hD => ?_⟩
        refine fin_do k1 f1 (c := .joinAll) ?_ hD q ?_
        · unfold turns
          rw [e]
          exact hP1
        · unfold tells
          rw [e]
          rfl
      · have e : act ⟨b, [], []⟩ .joinAll = ((⟨b, [], []⟩ : Desk).become (bookJ b b.n), b.some_ ((List.range b.n).filter (mayJ b))) := (act_joinAll b).trans (if_neg h0)
        have d0 : decide (V.int ((((List.range b.n).filter (mayJ b)).length : Nat) : Int) = V.int 0) = false := decide_eq_false fun z => h0 (by
          have z' := V.int.inj z
          exact List.length_eq_zero_iff.mp (by omega))
        rw [d0]
        refine iteF ⟨_, rfl, J, _, rfl, SqL.of d1, fun i hi => Nat.lt_of_lt_of_le (List.mem_range.mp (List.mem_filter.mp hi).1) h24, fun H2 D s2 hD d2 => ?_⟩
        refine q H2 D as (k1.trans (Kept.of_same s2)) (f1 D hD) (fun a h => .inl h) ?_ ?_
        · show PAt CP CM _ p l as (turns b .joinAll)
          unfold turns
          rw [e]
          exact hP1.same s2
        · rw [d2]
          show _ = some (HO.lst (ansV (tells b .joinAll)))
          unfold tells
          rw [e]
          rfl
end
end AG
namespace AG
open PySem PySem.Spec PyProof.Rows L2 LamX Km499
/-- a field that is not there yet -/
theorem put_new {k : Str} {v : V} : ∀ {l : List (Str × V)}, (l.map (·.1)).all (fun g => !(k == g)) = true → putF k v l = l ++ [(k, v)]
  | [], _ => rfl
  | (g, u) :: r, d => by
    have d' : (!(k == g) && (r.map (·.1)).all (fun p => !(k == p))) = true := d
    rw [Bool.and_eq_true] at d'
    have n : ¬ g = k := fun z => by
      rw [z] at d'
      simp at d'
    show (if g = k then (g, v) :: r else (g, u) :: putF k v r) = (g, u) :: (r ++ [(k, v)])
    rw [if_neg n, put_new d'.2]
theorem put_newN {k : Str} {v : V} {l : List (Str × V)} (ns : List Str) (hn : l.map (·.1) = ns) (d : ns.all (fun g => !(k == g)) = true) : putF k v l = l ++ [(k, v)] := put_new (by rw [hn]; exact d)
def newMan (b : Book) (f : Option Nat) : Man := ⟨f, b.year, true, none, 0⟩
theorem grown_at {b : Book} {m : Man} {i : Nat} : ({ b with men := b.men ++ [m] } : Book).at_ i = if i < b.n then b.at_ i else if i = b.n then m else ⟨none, 0, false, none, 0⟩ := by
  unfold Book.at_ Book.n
  show (b.men ++ [m]).getD i _ = _
  by_cases h : i < b.men.length
  · rw [if_pos h]
    simp [List.getElem?_append_left h]
  · rw [if_neg h]
    by_cases e : i = b.men.length
    · rw [if_pos e]
      simp [e]
    · rw [if_neg e]
      have h2 : (b.men ++ [m])[i]? = none := List.getElem?_eq_none (by simp; omega)
      simp [h2]
theorem grown_n (b : Book) (m : Man) : ({ b with men := b.men ++ [m] } : Book).n = b.n + 1 := by
  unfold Book.n
  simp
theorem WF.born {b : Book} (h : WF b) {f : Option Nat} (hn : b.n < 24) (hf : ∀ q, f = some q → q < b.n) : WF { b with men := b.men ++ [newMan b f] } := by
  refine ⟨h.t1, h.t2, h.g1, h.g2, h.n1, h.n2, h.lh, h.h60, h.y, h.ru, ?_, fun i hi => ?_, fun i q hi e => ?_, fun i s hi e => ?_, fun i hi e => ?_⟩
  · show (b.men ++ [newMan b f]).length ≤ 24
    have hn' : b.men.length < 24 := hn
    simp
    omega
  · rw [grown_n] at hi
    rw [grown_at]
    by_cases c : i < b.n
    · rw [if_pos c]
      exact h.bo i c
    · rw [if_neg c, if_pos (by omega)]
      exact Nat.le_refl _
  · rw [grown_n] at hi
    rw [grown_at] at e
    by_cases c : i < b.n
    · rw [if_pos c] at e
      exact h.fa i q c e
    · rw [if_neg c, if_pos (by omega)] at e
      have := hf q e
      omega
  · rw [grown_n] at hi
    rw [grown_at] at e
    by_cases c : i < b.n
    · rw [if_pos c] at e
      exact h.se i s c e
    · rw [if_neg c, if_pos (by omega)] at e
      cases e
  · rw [grown_n] at hi
    rw [grown_at] at e ⊢
    by_cases c : i < b.n
    · rw [if_pos c] at e ⊢
      exact h.jo i c e
    · rw [if_neg c, if_pos (by omega)]
      rfl
section
variable {P : Program} {w : World} {K : PySem.W.Frag} {mg : Str → Option Value} {base : Heap} {CP CM : Addr}
def spManInit (CM : Addr) : Sp := fun vs H Q _ => ∃ (x dx : Addr) (y : Nat) (f : Option Nat), vs = [.ref x, .int (y : Int), oV f] ∧ H x = some (.ins CM dx []) ∧ Q .non (upd H x (.ins CM dx (mF ⟨f, y, true, none, 0⟩)))
theorem scManInit : FnScope ["self", "born", "father"] ["self", "born", "father"] (defScope sManInit) := ⟨rfl, rfl, rfl, by decide +kernel, rfl, by decide +kernel, by decide +kernel⟩
theorem ok_manInit {f : Addr} {fd : FuncData} (F : Fun K "__init__" "Man.__init__" sManInit f fd) (T : TxS K mg CP CM) : FnOk P w K mg base CX0 1 f fd ["self", "born", "father"] (spManInit CM) := by
  refine F.ok scManInit (fun vs H Q E h => ?_) (fun cdv A outer s H vs Q E hr h => ?_)
  · obtain ⟨x, dx, y, fa, rfl, _⟩ := h
    rfl
  · obtain ⟨x, dx, y, fa, rfl, hx, q⟩ := h
    refine ⟨_, pss_cons (ps_fld (pv 0) (pv 1) rfl) (pss_cons (ps_fld (pv 0) (pv 2) rfl) (pss_cons (ps_fld (pv 0) pe_bl rfl) (pss_cons (ps_fld (pv 0) pe_non rfl) (pss_one (ps_fld (pv 0) pe_non rfl))))), ?_⟩
    refine ⟨_, rfl, _, rfl, x, CM, dx, [], rfl, hx, T.clM, T.naM _ (by decide +kernel), (by show 0 < 1000; decide), ?_⟩
    have e1 : putF "born" (.int (y : Int)) [] = ([("born", V.int (y : Int))] : List (Str × V)) := rfl
    rw [e1]
    refine ⟨_, rfl, _, rfl, x, CM, dx, _, rfl, upd_same, T.clM, T.naM _ (by decide +kernel), (by show 1 < 1000; decide), ?_⟩
    rw [put_newN ["born"] rfl (by decide +kernel), upd_upd]
    refine ⟨_, rfl, x, CM, dx, _, rfl, upd_same, T.clM, T.naM _ (by decide +kernel), (by show 2 < 1000; decide), ?_⟩
    rw [put_newN ["born", "father"] rfl (by decide +kernel), upd_upd]
    refine ⟨_, rfl, x, CM, dx, _, rfl, upd_same, T.clM, T.naM _ (by decide +kernel), (by show 3 < 1000; decide), ?_⟩
    rw [put_newN ["born", "father", "lives"] rfl (by decide +kernel), upd_upd]
    refine ⟨_, rfl, x, CM, dx, _, rfl, upd_same, T.clM, T.naM _ (by decide +kernel), (by show 4 < 1000; decide), ?_⟩
    rw [put_newN ["born", "father", "lives", "age_set"] rfl (by decide +kernel), upd_upd]
    exact q
/-- a new man behind the others -/
theorem PAt.grow {H : Hp} {p l x dx : Addr} {as : List Addr} {b : Book} {f : Option Nat} (hP : PAt CP CM H p l as b) (hx : H x = none) (hdx : H dx = none) (wf : WF { b with men := b.men ++ [newMan b f] }) :
    PAt CP CM (upd (upd (upd H dx (.own x)) x (.ins CM dx (mF (newMan b f)))) l (.lst (as.map V.ref ++ [.ref x]))) p l (as ++ [x]) { b with men := b.men ++ [newMan b f] } := by
  obtain ⟨dp, hp⟩ := hP.obj
  have lx : l ≠ x := ne_of_none hP.lst hx
  have ld : l ≠ dx := ne_of_none hP.lst hdx
  refine ⟨⟨dp, ?_⟩, ?_, ?_, fun i a e => ?_, ?_, wf⟩
  · rw [upd_ne hP.ne_pl, upd_ne (ne_of_none hp hx), upd_ne (ne_of_none hp hdx)]
    exact hp
  · rw [upd_same, List.map_append]
    rfl
  · rw [grown_n, List.length_append, hP.len]
    rfl
  · rw [grown_at]
    by_cases c : i < as.length
    · rw [List.getElem?_append_left c] at e
      rw [if_pos (by rw [← hP.len]; exact c)]
      obtain ⟨dy, hy⟩ := hP.men i a e
      exact ⟨dy, by rw [upd_ne (hP.ne_la e).symm, upd_ne (ne_of_none hy hx), upd_ne (ne_of_none hy hdx)]; exact hy⟩
    · have c2 : i = as.length := by
        have := (List.getElem?_eq_some_iff.mp e).1
        simp at this
        omega
      have ea : a = x := by
        rw [c2] at e
        simpa using e.symm
      rw [ea, if_neg (by rw [← hP.len]; omega), if_pos (by rw [← hP.len]; exact c2)]
      exact ⟨dx, by rw [upd_ne lx.symm, upd_same]⟩
  · rw [List.nodup_append]
    refine ⟨hP.nd, by simp, fun a ha y hy => ?_⟩
    have ey : y = x := by simpa using hy
    rw [ey]
    intro z
    obtain ⟨i, ei⟩ := List.mem_iff_getElem?.mp ha
    obtain ⟨dy, h⟩ := hP.men i a ei
    rw [z, hx] at h
    cases h
theorem scCBorn : FnScope ["people", "given", "father"] ["people", "given"] (defScope sCBorn) := ⟨rfl, rfl, rfl, by decide +kernel, rfl, by decide +kernel, by decide +kernel⟩
theorem ok_cBorn {f fH fI : Addr} {fd fdH fdI : FuncData} (F : Fun K "pp_born" "pp_born" sCBorn f fd) (T : TxS K mg CP CM) (MH : MethAt K CP "has_man" "People.has_man" sHasMan fH fdH ["self", "number"])
    (M : Mk K CM fI) (FI : Fun K "__init__" "Man.__init__" sManInit fI fdI) (bI : Binds K fdI ["self", "born", "father"] []) :
    FnOk P w K mg base CX0 3 f fd ["people", "given"] (spC K CP CM 1 fun xs => .born (xs.getD 0 0)) := by
  have GH : FnOk P w K mg base CX0 1 fH fdH ["self", "number"] (spHasMan CP CM) := ok_hasMan MH.fn T
  have GI : FnOk P w K mg base CX0 1 fI fdI ["self", "born", "father"] (spManInit CM) := ok_manInit FI T
  refine F.ok scCBorn (fun vs H Q E h => ?_) (fun cdv A outer s H vs Q E hr h => ?_)
  · obtain ⟨p, l, as, b, g, xs, rfl, _⟩ := h
    rfl
  · obtain ⟨p, l, as, b, g, xs, rfl, hP, hS, hn, q⟩ := h
    obtain ⟨x, rfl⟩ : ∃ x, xs = [x] := List.length_eq_one_iff.mp hn
    obtain ⟨t2, c2⟩ := T.cs ("NO_SUCH_MAN", -2) (by decide +kernel)
    obtain ⟨t16, c16⟩ := T.cs ("DEAD_OR_NEWBORN", -16) (by decide +kernel)
    obtain ⟨t28, c28⟩ := T.cs ("PEOPLE_FULL", -28) (by decide +kernel)
    obtain ⟨t24, c24⟩ := T.cs ("MOST_MEN", 24) (by decide +kernel)
    have hr1 : Room 1 _ := hr.mono (by decide)
    refine ⟨_, pss_cons (ps_set (i := 2) scCBorn.nd rfl (Or.inl rfl) (pe_ifExp (pt_cmpR op_gt (pe_ix ix_list (pv 1) pe_int (fun _ _ => rfl)) pe_int (nomark _)) (pe_op op_sub (pe_ix ix_list (pv 1) pe_int (fun _ _ => rfl)) pe_int) pe_non))
      (pss_cons (ps_if (pt_cmp (pc_notN (pv 2)))
        (pss_cons (ps_if (pt_not (pt_val (pe_meth (pv 0) T.clP MH.mt GH hr1 MH.bi .nil pass0 (pa_cons (pv 2) pa_nil)))) (pss_one (ps_ret (pe_lst (pa_cons (pe_glob (v := .int (-2)) (by rfl) c2 ⟨_, rfl⟩) pa_nil)))) pss_nil)
        (pss_one (ps_if (PW.pt (pw_or (pt_not (pt_val (pe_fld (pe_ix ix_list (pe_fld (pv 0) rfl) (pv 2) (fun _ _ => rfl)) rfl))) (pw_or1 (pt_cmpR op_eq (pe_fld (pe_ix ix_list (pe_fld (pv 0) rfl) (pv 2) (fun _ _ => rfl)) rfl) (pe_fld (pv 0) rfl) (nomark _))))) (pss_one (ps_ret (pe_lst (pa_cons (pe_glob (v := .int (-16)) (by rfl) c16 ⟨_, rfl⟩) pa_nil)))) pss_nil))) pss_nil)
      (pss_cons (ps_if (pt_cmpR op_eq (pe_callB call_len_seq (by rfl) T.len PySem.boot_len (pa_cons (pe_fld (pv 0) rfl) pa_nil)) (pe_glob (v := .int 24) (by rfl) c24 ⟨_, rfl⟩) (nomark _)) (pss_one (ps_ret (pe_lst (pa_cons (pe_glob (v := .int (-28)) (by rfl) c28 ⟨_, rfl⟩) pa_nil)))) pss_nil)
      (pss_cons (ps_expr (pe_bm PySem.F.plainAttrs_list PySem.F.slot_list_append PySem.F.type_list_append mt_append (pe_fld (pv 0) rfl) (pa_cons (pe_make M GI hr (by rfl) T.gM bI .nil pass0 (pa_cons (pe_fld (pv 0) rfl) (pa_cons (pv 2) pa_nil))) pa_nil)))
      (pss_one (ps_ret (pe_lst (pa_cons (pe_op op_sub (pe_callB call_len_seq (by rfl) T.len PySem.boot_len (pa_cons (pe_fld (pv 0) rfl) pa_nil)) pe_int) pa_nil))))))), ?_⟩
    have h24 := hP.few
    have hlen : (as.map V.ref).length = b.n := by rw [List.length_map, hP.len]
    -- from the third statement on
    have rest : ∀ (fo : Option Nat), (∀ j, fo = some j → j < b.n) → ¬ b.n < x → ¬ (0 < x ∧ ((b.at_ (x - 1)).alive = false ∨ b.year ≤ (b.at_ (x - 1)).born)) → (if x = 0 then none else some (x - 1)) = fo →
        ∀ {D1 : Ends}, D1.rt = Q → (tSeq (tIfS (tTest (tOp rEq (tCB (fun xs H Q => ∃ p ys, xs = [.ref p] ∧ (SqL K H p ys ∨ SqT K H p ys) ∧ Q (.int ys.length) H) (tCons (tFld K (tVar 0) "men") tNil)) (tC (.int 24)))) (tRet (tLst (tCons (tC (.int (-28))) tNil))) tNext)
          (tSeq (tDrop (tBM K "list" rAppend (tFld K (tVar 0) "men") (tCons (tMake CM (spManInit CM) [] E0 (tCons (tFld K (tVar 0) "year") (tCons (tVar 2) tNil))) tNil)))
            (tRet (tLst (tCons (tOp (rI0 fun i j => .int (i - j)) (tCB (fun xs H Q => ∃ p ys, xs = [.ref p] ∧ (SqL K H p ys ∨ SqT K H p ys) ∧ Q (.int ys.length) H) (tCons (tFld K (tVar 0) "men") tNil)) (tC (.int 1))) tNil))))) D1 [some (.ref p), some (.ref g), some (oV fo)] H := by
      intro fo hfo hnx h16 efo D1 hD1
      subst hD1
      refine ⟨_, rfl, fP T hP (by decide +kernel) (pF_men b l) ⟨l, _, rfl, .inl (SqL.of hP.lst), rfl, _, rfl, ?_⟩⟩
      rw [hlen]
      by_cases hf : b.n = 24
      · rw [hf]
        refine iteT ⟨(by show 1 ≤ sizeLine; decide), fun D hD => no_of (c := .born x) ((if_neg hnx).trans ((if_neg h16).trans (if_pos (by show 24 ≤ b.n; omega)))) rfl hP hD q⟩
      · rw [decide_eq_false (fun z => hf (by have := V.int.inj z; omega) : ¬ V.int ((b.n : Nat) : Int) = V.int 24)]
        refine iteF ⟨_, rfl, fP T hP (by decide +kernel) (pF_men b l) ⟨.inl ⟨rfl, _, SqL.of hP.lst⟩, ?_⟩⟩
        refine ⟨_, rfl, fP T hP (by decide +kernel) (pF_year b l) ⟨_, rfl, ?_⟩⟩
        intro y dy hy hdy nd
        refine ⟨y, dy, b.year, fo, rfl, upd_same, rfl, ?_⟩
        rw [upd_upd]
        have ly : l ≠ y := ne_of_none hP.lst hy
        have ld : l ≠ dy := ne_of_none hP.lst hdy
        refine ⟨l, as.map V.ref, _, rfl, rfl, ?_, ?_, ?_⟩
        · rw [upd_ne ly, upd_ne ld]
          exact hP.lst
        · rw [hlen]
          exact Nat.lt_of_le_of_lt h24 (by decide)
        · have wf := hP.wf.born (f := fo) (by omega) hfo
          have hP1 := hP.grow (f := fo) hy hdy wf
          refine ⟨_, rfl, fP T hP1 (by decide +kernel) (pF_men _ l) ⟨l, _, rfl, .inl (SqL.of hP1.lst), _, _, rfl, rfl, (by show 1 ≤ sizeLine; decide), fun D hD => ?_⟩⟩
          have e : act ⟨b, [], []⟩ (.born x) = ((⟨b, [], []⟩ : Desk).become { b with men := b.men ++ [newMan b fo] }, only (n2i b.n)) := by
            refine (if_neg hnx).trans ((if_neg h16).trans ((if_neg (by show ¬ 24 ≤ b.n; omega)).trans ?_))
            rw [← efo]
            rfl
          have fr : ∀ z, upd (upd (upd H dy (.own y)) y (.ins CM dy (mF (newMan b fo)))) l (.lst (as.map V.ref ++ [.ref y])) z = none → H z = none := fun z hz => upd_free z (upd_free z (upd_free z hz))
          refine q _ D (as ++ [y]) ?_ (fr D hD) (fun a ha => ?_) ?_ ?_
          · intro z o ez nz
            have z1 : z ≠ D := fun h => by rw [h, fr D hD] at ez; cases ez
            have z2 : z ≠ l := fun h => nz (by rw [h]; exact .tail _ (.head _))
            rw [upd_ne z1, upd_ne z2, upd_ne (ne_of_none ez hy), upd_ne (ne_of_none ez hdy)]
            exact ez
          · rcases List.mem_append.mp ha with h | h
            · exact .inl h
            · have ey : a = y := by simpa using h
              exact .inr (by rw [ey]; exact hy)
          · show PAt CP CM _ p l _ (turns b (.born x))
            unfold turns
            rw [e]
            exact hP1.same (same_new hD)
          · show _ = some (HO.lst (ansV (tells b (.born x))))
            unfold tells
            rw [e, upd_same]
            have e3 : (((as ++ [y]).map V.ref).length : Int) - 1 = ((b.n : Nat) : Int) := by
              rw [List.length_map, List.length_append, hP.len]
              simp
            show some (HO.lst [V.int ((((as ++ [y]).map V.ref).length : Int) - 1)]) = _
            rw [e3]
            rfl
    refine ⟨_, rfl, g, _, _, .int x, rfl, rfl, hS, rfl, _, _, rfl, rfl, _, rfl, ?_⟩
    by_cases h0 : 0 < x
    · rw [decide_eq_true (by omega : (0 : Int) < (x : Int))]
      refine iteT ⟨_, rfl, g, _, _, .int x, rfl, rfl, hS, rfl, _, _, rfl, rfl, ?_⟩
      have ex : ((x : Int) - 1) = ((x - 1 : Nat) : Int) := by omega
      show gName 2 (V.int ((x : Int) - 1)) _ H _
      rw [ex]
      refine ⟨_, rfl, _, rfl, ?_⟩
      refine iteT ⟨_, rfl, cP hP (by decide +kernel) ⟨_, rfl, p, l, as, b, _, rfl, hP, _, rfl, ?_⟩⟩
      rw [dec_lt]
      by_cases hi : x - 1 < b.n
      · have hnx : ¬ b.n < x := by omega
        rw [decide_eq_true hi]
        refine iteF ?_
        obtain ⟨a, ea, hM⟩ := hP.man hi
        refine ⟨_, rfl, fP T hP (by decide +kernel) (pF_men b l) ⟨_, rfl, l, _, _, .ref a, rfl, rfl, SqL.of hP.lst, hP.item ea, ?_⟩⟩
        refine fM T hM (by decide +kernel) (mF_lives _) ⟨_, rfl, ?_⟩
        have hb := hP.wf.bo _ hi
        cases hal : (b.at_ (x - 1)).alive with
        | false => exact iteT (iteT ⟨(by show 1 ≤ sizeLine; decide), fun D hD => no_of (c := .born x) ((if_neg hnx).trans (if_pos ⟨h0, .inl hal⟩)) rfl hP hD q⟩)
        | true =>
          refine iteF ⟨_, rfl, fP T hP (by decide +kernel) (pF_men b l) ⟨_, rfl, l, _, _, .ref a, rfl, rfl, SqL.of hP.lst, hP.item ea, ?_⟩⟩
          refine fM T hM (by decide +kernel) (mF_born _) ⟨_, rfl, fP T hP (by decide +kernel) (pF_year b l) ⟨rfl, _, rfl, ?_⟩⟩
          by_cases hy : (b.at_ (x - 1)).born = b.year
          · rw [decide_eq_true (by rw [hy] : V.int ((b.at_ (x - 1)).born : Int) = V.int (b.year : Int))]
            exact iteT ⟨(by show 1 ≤ sizeLine; decide), fun D hD => no_of (c := .born x) ((if_neg hnx).trans (if_pos ⟨h0, .inr (Nat.le_of_eq hy.symm)⟩)) rfl hP hD q⟩
          · rw [decide_eq_false (fun z => hy (by have := V.int.inj z; omega) : ¬ V.int ((b.at_ (x - 1)).born : Int) = V.int (b.year : Int))]
            refine iteF ?_
            refine rest (some (x - 1)) (fun j e => by cases e; exact hi) hnx (fun z => ?_) (if_neg (by omega)) rfl
            rcases z.2 with z | z
            · rw [hal] at z; cases z
            · omega
      · rw [decide_eq_false hi]
        exact iteT ⟨(by show 1 ≤ sizeLine; decide), fun D hD => no_of (c := .born x) (if_pos (by show b.n < x; omega)) rfl hP hD q⟩
    · rw [decide_eq_false (by omega : ¬ (0 : Int) < (x : Int))]
      refine iteF ?_
      refine ⟨_, rfl, _, rfl, ?_⟩
      refine iteF ?_
      exact rest none (fun j e => by cases e) (by omega) (fun z => h0 z.1) (if_pos (by omega)) rfl
end
end AG
namespace AG
open PySem PySem.Spec PyProof.Rows L2 LamX Km499
open Km499Neutral (S step asked1 may)
abbrev sAnswers : Stmt := top 86
def zV (l : List Int) : List V := l.map V.int
/-- what is outside F stays, tables aside -/
def KeptT (F : List Addr) (H H' : Hp) : Prop := ∀ x o, H x = some o → (∀ ps, o ≠ .tbl ps) → x ∉ F → H' x = some o
/-- the object that a line speaks to: how it lies in the heap is told elsewhere (LA) -/
structure LineOk (CL : Addr) (LA : S → Addr → List Addr → Hp → Prop) : Prop where
  stay : ∀ s ln F H H', LA s ln F H → (∀ b ∈ F, ∀ o, H b = some o → (∀ ps, o ≠ .tbl ps) → H' b = some o) → LA s ln F H'
  obj : ∀ s ln F H, LA s ln F H → ∃ dx fs, H ln = some (.ins CL dx fs) ∧ fs.lookup ("answer" : Str) = none
/-- line.answer: one call -/
def spAnswer (K : PySem.W.Frag) (T : List (Addr × Str)) (LA : S → Addr → List Addr → Hp → Prop) : Sp := fun vs H Q _ => ∃ ln g F s p xs, vs = [.ref ln, .int p, .ref g] ∧ LA s ln F H ∧ Tabs T H ∧ SqL K H g (zV xs) ∧ (∀ b ∈ F, ∃ o, H b = some o ∧ ∀ ps, o ≠ .tbl ps) ∧ g ∉ F ∧ asked1 [p :: xs] = true ∧ (step s [p :: xs]).2 ≠ [] ∧
  ∀ H' D F', KeptT F H H' → Tabs T H' → NewN H D → D ∉ F' → (∀ b ∈ F', (∃ o, H' b = some o ∧ ∀ ps, o ≠ .tbl ps) ∧ (b ∈ F ∨ NewN H b)) → LA (step s [p :: xs]).1 ln F' H' → H' D = some (.lst (zV (step s [p :: xs]).2)) → Q (.ref D) H'
/-- Line() -/
def spLine (CL : Addr) (LA : S → Addr → List Addr → Hp → Prop) : Sp := fun vs H Q _ => ∃ x dx, vs = [.ref x] ∧ H x = some (.ins CL dx []) ∧
  ∀ H', (∀ b o, H b = some o → b ≠ x → H' b = some o) → LA Km499Neutral.start x [x] H' → (∃ o, H' x = some o ∧ ∀ ps, o ≠ .tbl ps) → Q .non H'
def spAns (K : PySem.W.Frag) (T : List (Addr × Str)) : Sp := fun vs H Q _ => ∃ a ns, vs = [.ref a] ∧ SqL K H a (zV ns) ∧ Tabs T H ∧ ns.length ≤ 6000 ∧ PyKm499.answers_asked ns = true ∧ ∀ H' D, H' D = some (.lst (zV (PyKm499.answers ns))) → Q (.ref D) H'
def counts : List Nat := [5, 1, 1, 1, 0, 1, 1, 1, 1, 1, 1, 0, 0, 0, 0, 1, 1, 2, 0, 1, 1, 0, 0, 1, 1, 0, 0, 0]
theorem scAnswers : FnScope ["calls", "line", "told", "at", "number", "behind_call", "answer"] ["calls"] (defScope sAnswers) := ⟨rfl, rfl, rfl, by decide +kernel, rfl, by decide +kernel, by decide +kernel⟩
theorem cut_nat (xs : List V) (i j : Nat) (h : i ≤ j) (hj : j ≤ xs.length) : cutV xs (some (i : Int)) (some (j : Int)) = (xs.drop i).take (j - i) := by
  unfold cutV
  have e1 : HT.sIx xs.length 0 (some (i : Int)) = i := by
    unfold HT.sIx
    have h0 : ¬ (i : Int) < 0 := by omega
    simp [h0]
    omega
  have e2 : HT.sIx xs.length xs.length (some (j : Int)) = j := by
    unfold HT.sIx
    have h0 : ¬ (j : Int) < 0 := by omega
    simp [h0]
    omega
  rw [e1, e2]
/-- a list is changed: the tables stand -/
theorem tabs_upd {T : List (Addr × Str)} {H : Hp} {a : Addr} {xs ys : List V} (t : Tabs T H) (h : H a = some (.lst xs)) : Tabs T (upd H a (.lst ys)) := fun p hp => by
  obtain ⟨ps, h1, h2, h3⟩ := t p hp
  refine ⟨ps, by rw [upd_ne (ne_of h1 h (by intro z; cases z))]; exact h1, h2, fun pos cv hc => ?_⟩
  obtain ⟨c, e1, e2⟩ := h3 pos cv hc
  exact ⟨c, e1, by rw [upd_ne (ne_of e2 h (by intro z; cases z))]; exact e2⟩
section
variable {P : Program} {w : World} {K : PySem.W.Frag} {mg : Str → Option Value} {base : Heap} {CP CM CL : Addr} {LA : S → Addr → List Addr → Hp → Prop} {Tb : List (Addr × Str)}
theorem ok_answers {f fI fA gc : Addr} {fd fdI fdA : FuncData} {k : Nat} (F : Fun K "answers" "answers" sAnswers f fd) (T : TxS K mg CP CM) (clL : Cls K CL) (gL : mg "Line" = some (.ref CL)) (O : LineOk CL LA)
    (M : Mk K CL fI) (bI : Binds K fdI ["self"] []) (GI : FnOk P w K mg base CX0 (k + 1) fI fdI ["self"] (spLine CL LA))
    (mA : Meth K CL "answer" fA) (bA : Binds K fdA ["self", "number", "given"] []) (GA : FnOk P w K mg base CX0 (k + 1) fA fdA ["self", "number", "given"] (spAnswer K Tb LA))
    (gG : mg "GIVEN_COUNTS" = some (.ref gc)) (hG : ∀ H, SqT K H gc (nV counts)) :
    FnOk P w K mg base CX0 (k + 3) f fd ["calls"] (spAns K Tb) := by
  refine F.ok scAnswers (fun vs H Q E h => ?_) (fun cdv A outer s H vs Q E hr h => ?_)
  · obtain ⟨a, ns, rfl, _⟩ := h
    rfl
  · obtain ⟨a, ns, rfl, hS, hT, hlen, hask, q⟩ := h
    have hr1 : Room (k + 1) _ := hr.mono (by omega)
    refine ⟨_, pss_cons (ps_set (i := 1) scAnswers.nd rfl (Or.inl rfl) (pe_make0 M GI hr (by rfl) gL bI .nil pass0))
      (pss_cons (ps_set (i := 2) scAnswers.nd rfl (Or.inl rfl) (pe_lst pa_nil))
      (pss_cons (ps_set (i := 3) scAnswers.nd rfl (Or.inl rfl) pe_int)
      (pss_cons (ps_while PassesOwn.never (pt_cmpR op_lt (pv 3) (pe_callB call_len_seq (by rfl) T.len PySem.boot_len (pa_cons (pv 0) pa_nil)) (nomark _))
        (pss_cons (ps_set (i := 4) scAnswers.nd rfl (Or.inl rfl) (pe_ix ix_list (pv 0) (pv 3) (fun _ _ => rfl)))
        (pss_cons (ps_set (i := 5) scAnswers.nd rfl (Or.inl rfl) (pe_op op_add (pe_op op_add (pv 3) pe_int) (pe_ix ix_tup (pe_glob (v := .ref gc) (by rfl) gG rfl) (pv 4) (fun _ _ => rfl))))
        (pss_cons (ps_set (i := 6) scAnswers.nd rfl (Or.inl rfl) (pe_meth (pv 1) clL mA GA hr1 bA .nil pass0 (pa_cons (pv 4) (pa_cons (pe_slice sl_list (pv 0) (po_some (pe_op op_add (pv 3) pe_int)) (po_some (pv 5))) pa_nil))))
        (pss_cons (ps_expr (pe_bm PySem.F.plainAttrs_list PySem.F.slot_list_append PySem.F.type_list_append mt_append (pv 2) (pa_cons (pe_callB call_len_seq (by rfl) T.len PySem.boot_len (pa_cons (pv 6) pa_nil)) pa_nil)))
        (pss_cons (ps_expr (pe_bm PySem.F.plainAttrs_list PySem.F.slot_list_extend PySem.F.type_list_extend mt_extend (pv 2) (pa_cons (pv 6) pa_nil)))
        (pss_one (ps_set (i := 3) scAnswers.nd rfl (Or.inl rfl) (pv 5)))))))))
      (pss_one (ps_ret (pv 2)))))), ?_⟩
    intro x dx hx hdx nd
    refine ⟨x, dx, rfl, upd_same, fun H1 k1 la1 o1 => ⟨rfl, ?_⟩⟩
    have s1 : Same H H1 := fun b o e => k1 b o (by rw [upd_ne (ne_of_none e hx), upd_ne (ne_of_none e hdx)]; exact e) (ne_of_none e hx)
    refine ⟨Nat.zero_le _, fun tl htl => ?_⟩
    obtain ⟨cs, hcs, hall, hmay, hans, _⟩ := asked_open hask
    have ntl : tl ∉ [x] := fun z => by
      have e : tl = x := by simpa using z
      obtain ⟨o, ho, _⟩ := o1
      rw [e, ho] at htl
      cases htl
    refine while_by (fun σ H' => ∃ (i fu : Nat) (cs : List (List (List Int))) (st : S) (tolds : List Int) (F : List Addr) (v4 v5 v6 : Option V), σ = [some (.ref a), some (.ref x), some (.ref tl), some (.int (i : Int)), v4, v5, v6] ∧ i ≤ ns.length ∧
        PyFlat.calls PyKm499.shape fu (ns.drop i) = some cs ∧ cs.all asked1 = true ∧ may st cs = true ∧ tolds ++ PyFlat.told (PyFlat.played step st cs) = PyKm499.answers ns ∧ tolds.length ≤ 7 * i ∧
        ExtN H H' ∧ Tabs Tb H' ∧ LA st x F H' ∧ (∀ b ∈ F, (∃ o, H' b = some o ∧ ∀ ps, o ≠ .tbl ps) ∧ NewN H b) ∧ tl ∉ F ∧ H' tl = some (.lst (zV tolds)) ∧ NewN H tl)
      (fun σ _ => match σ with | [_, _, _, some (.int i), _, _, _] => ns.length - i.toNat | _ => 0) ?_ ?_ ?_
    · have s2 : Same H (upd H1 tl (.lst [])) := s1.trans (same_new htl)
      refine ⟨0, ns.length, cs, Km499Neutral.start, [], [x], none, none, none, rfl, Nat.zero_le _, hcs, hall, hmay, ?_, Nat.zero_le _, ExtN.of s2, hT.ext s2, ?_, fun b hb => ?_, ntl, upd_same, NewN.of (s1.free htl)⟩
      · rw [hans]
        exact List.nil_append _
      · refine O.stay _ _ _ _ _ la1 fun b hb o e _ => ?_
        rw [upd_ne (fun z => ntl (by rw [← z]; exact hb))]
        exact e
      · have e : b = x := by simpa using hb
        subst e
        obtain ⟨o, ho, nt⟩ := o1
        refine ⟨⟨o, ?_, nt⟩, NewN.of hx⟩
        rw [upd_ne (fun z => ntl (by simp [z]))]
        exact ho
    · rintro σ H2 ⟨i, fu, cs, st, tolds, F, v4, v5, v6, rfl, hi, hc, hal, hm, hto, hle, e2, t2, la2, hF, nF, d2, n2⟩
      have hS2 : SqL K H2 a (zV ns) := ExtN.seq e2 hS
      refine ⟨_, rfl, _, rfl, a, _, rfl, .inl hS2, _, _, rfl, rfl, _, rfl, ?_⟩
      have hzl : (zV ns).length = ns.length := by unfold zV; rw [List.length_map]
      rw [hzl]
      by_cases hlt : i < ns.length
      · rw [decide_eq_true (by omega : (i : Int) < ((ns.length : Nat) : Int))]
        refine iteT ?_
        have hne : ns.drop i ≠ [] := fun z => by
          have := List.drop_eq_nil_iff.mp z
          omega
        obtain ⟨p, r, n, fu', cs', edrop, hsh, hnr, rfl, hc'⟩ := calls_cons hc hne
        have hp : ns[i]? = some p := by
          have := List.getElem?_drop (xs := ns) (i := i) (j := 0)
          rw [edrop] at this
          simpa using this.symm
        have er : r = ns.drop (i + 1) := by
          have h := congrArg (List.drop 1) edrop
          rw [List.drop_drop] at h
          simpa using h.symm
        have hin : i + 1 + n ≤ ns.length := by
          have h := congrArg List.length er
          rw [List.length_drop] at h
          omega
        obtain ⟨pi, rfl, hcount⟩ := counts_shape hsh
        have hal1 : asked1 [(pi : Int) :: r.take n] = true ∧ cs'.all asked1 = true := by
          rw [List.all_cons, Bool.and_eq_true] at hal
          exact hal
        obtain ⟨hne2, hm'⟩ := may_cons hm
        have ep : (zV ns)[i]? = some (.int (pi : Int)) := by unfold zV; rw [List.getElem?_map, hp]; rfl
        refine ⟨_, rfl, _, rfl, a, _, _, .int (pi : Int), rfl, rfl, hS2, atI_nat ep, ?_⟩
        have ec : (nV counts)[pi]? = some (.int (n : Int)) := by
          unfold nV
          rw [List.getElem?_map]
          have h : counts[pi]? = some n := hcount
          rw [h]
          rfl
        refine ⟨_, rfl, _, _, rfl, rfl, _, rfl, gc, _, _, .int (n : Int), rfl, rfl, hG H2, atI_nat ec, _, _, rfl, rfl, ?_⟩
        have ei : (i : Int) + 1 + (n : Int) = ((i + 1 + n : Nat) : Int) := by omega
        show gName 5 (V.int ((i : Int) + 1 + (n : Int))) _ H2 _
        rw [ei]
        obtain ⟨dl, fs, hln, nln⟩ := O.obj _ _ _ _ la2
        refine ⟨_, rfl, x, dl, fs, rfl, hln, nln, _, rfl, _, rfl, _, rfl, _, _, rfl, rfl, _, rfl, _, rfl, _, rfl, ?_⟩
        have ei1 : (i : Int) + 1 = ((i + 1 : Nat) : Int) := by omega
        refine ⟨a, _, rfl, hS2, fun gl hgl => ?_⟩
        have ecut : cutV (zV ns) (some ((i : Int) + 1)) (some ((i + 1 + n : Nat) : Int)) = zV (r.take n) := by
          rw [ei1, cut_nat (zV ns) (i + 1) (i + 1 + n) (by omega) (by rw [hzl]; exact hin), er]
          unfold zV
          rw [← List.map_drop, ← List.map_take]
          congr 2
          omega
        have s3 : Same H2 (upd H2 gl (.lst (cutV (zV ns) (some ((i : Int) + 1)) (some ((i + 1 + n : Nat) : Int))))) := same_new hgl
        have hq3 : SqL K (upd H2 gl (.lst (cutV (zV ns) (some ((i : Int) + 1)) (some ((i + 1 + n : Nat) : Int))))) gl (zV (r.take n)) := by
          rw [← ecut]
          exact SqL.of upd_same
        have ngF : gl ∉ F := fun z => by
          obtain ⟨⟨o, ho, _⟩, _⟩ := hF gl z
          rw [hgl] at ho
          cases ho
        have d3 := s3 _ _ d2
        refine ⟨x, gl, F, st, (pi : Int), r.take n, rfl, O.stay _ _ _ _ _ la2 fun b hb o e _ => s3 b o e, t2.ext s3, hq3, fun b hb => ?_, ngF, hal1.1, hne2, fun H4 D F' k4 t4 nD nDF hF4 la4 d4 => ?_⟩
        · obtain ⟨⟨o, ho, no⟩, _⟩ := hF b hb
          exact ⟨o, s3 b o ho, no⟩
        have e3 : ExtN H (upd H2 gl (.lst (cutV (zV ns) (some ((i : Int) + 1)) (some ((i + 1 + n : Nat) : Int))))) := e2.trans (ExtN.of s3)
        have d4t := k4 tl _ d3 (fun _ z => by cases z) nF
        have nDt : tl ≠ D := nD tl _ d3 fun _ z => by cases z
        have zlen : ∀ l : List Int, (zV l).length = l.length := fun l => by unfold zV; rw [List.length_map]
        have sl := step_len st [(pi : Int) :: r.take n]
        have big : ∀ m, m ≤ 50000 → m < sizeLine := fun m hm => Nat.lt_of_le_of_lt hm (by decide)
        refine ⟨_, rfl, .inl ⟨rfl, _, SqL.of d4t⟩, _, rfl, D, _, rfl, .inl (SqL.of d4), tl, _, _, rfl, rfl, d4t, big _ (by rw [zlen]; omega), ?_⟩
        refine ⟨_, rfl, .inl ⟨rfl, _, SqL.of upd_same⟩, _, rfl, tl, D, _, _, rfl, rfl, upd_same, (by rw [upd_ne nDt.symm]; exact d4), ?_, ?_⟩
        · rw [List.length_append, zlen, zlen]
          exact Nat.le_of_lt (big _ (by simp; omega))
        rw [upd_upd]
        have etold : zV tolds ++ [V.int (((zV (step st [(pi : Int) :: r.take n]).2).length : Nat) : Int)] ++ zV (step st [(pi : Int) :: r.take n]).2 = zV (tolds ++ (((step st [(pi : Int) :: r.take n]).2.length : Int) :: (step st [(pi : Int) :: r.take n]).2)) := by
          rw [zlen]
          unfold zV
          simp
        rw [etold]
        refine ⟨_, rfl, ⟨i + 1 + n, fu', cs', (step st [(pi : Int) :: r.take n]).1, _, F', _, _, _, rfl, hin, ?_, hal1.2, hm', ?_, ?_, ?_, ?_, ?_, fun b hb => ?_, ?_, upd_same, n2⟩, ?_⟩
        · rw [← hc', er, List.drop_drop]
        · rw [← hto, told_cons, List.append_assoc]
        · rw [List.length_append, List.length_cons]
          omega
        · intro b o e nt
          have h1 := e3 b o e nt
          have nb : b ∉ F := fun z => (hF b z).2 b o e nt rfl
          rw [upd_ne (n2 b o e nt)]
          exact k4 b o h1 nt nb
        · exact tabs_upd t4 d4t
        · refine O.stay _ _ _ _ _ la4 fun b hb o e _ => ?_
          rw [upd_ne ?_]
          · exact e
          · intro z
            rcases (hF4 b hb).2 with h | h
            · exact nF (by rw [← z]; exact h)
            · exact h tl _ d3 (fun _ y => by cases y) z.symm
        · obtain ⟨⟨o, ho, no⟩, hb2⟩ := hF4 b hb
          have nbt : b ≠ tl := fun z => by
            rcases hb2 with h | h
            · exact nF (by rw [← z]; exact h)
            · exact h tl _ d3 (fun _ y => by cases y) z.symm
          refine ⟨⟨o, by rw [upd_ne nbt]; exact ho, no⟩, ?_⟩
          rcases hb2 with h | h
          · exact (hF b h).2
          · exact h.back e3
        · intro z
          rcases (hF4 tl z).2 with h | h
          · exact nF h
          · exact h tl _ d3 (fun _ y => by cases y) rfl
        · show ns.length - ((i + 1 + n : Nat) : Int).toNat < ns.length - ((i : Nat) : Int).toNat
          rw [Int.toNat_natCast, Int.toNat_natCast]
          omega
      · rw [decide_eq_false (by omega : ¬ (i : Int) < ((ns.length : Nat) : Int))]
        refine iteF ?_
        have e0 : ns.drop i = [] := List.drop_eq_nil_iff.mpr (by omega)
        rw [e0] at hc
        have ecs := calls_nil hc
        subst ecs
        have ef : tolds = PyKm499.answers ns := by
          rw [← hto]
          exact (List.append_nil tolds).symm
        refine ⟨_, rfl, q H2 tl ?_⟩
        rw [d2, ef]
    · intro σ H2 R R' mono h
      obtain ⟨v, h1, u, h2, p', ys, h3, h4, i, j, h5, h6, c, h7, h8⟩ := h
      exact ⟨v, h1, u, h2, p', ys, h3, h4, i, j, h5, h6, c, h7, mono _ _ h8⟩
end
end AG
namespace AG
open PySem PySem.Spec PyProof.Rows L2 LamX Km499
abbrev sPeopleInit : Stmt := inClass (top 4) 0
abbrev sCanStart : Stmt := top 84
def startNo (t g n l h : Nat) : Prop := t = 0 ∨ 20 < t ∨ g < 2 ∨ GRADES < g ∨ n < 2 ∨ 16 < n ∨ h < l ∨ 60 < h
instance (t g n l h : Nat) : Decidable (startNo t g n l h) := by unfold startNo; infer_instance
def newBook (t g n l h : Nat) : Book := ⟨t, g, n, l, h, 1, 0, 0, []⟩
theorem newBook_wf {t g n l h : Nat} (hn : ¬ startNo t g n l h) : WF (newBook t g n l h) := by
  unfold startNo GRADES at hn
  have hz : ∀ i, ¬ i < (newBook t g n l h).n := fun i => Nat.not_lt_zero i
  exact ⟨by show 1 ≤ t; omega, by show t ≤ 20; omega, by show 2 ≤ g; omega, by show g ≤ 8; omega, by show 2 ≤ n; omega, by show n ≤ 16; omega, by show l ≤ h; omega, by show h ≤ 60; omega, by show 0 ≤ 400; omega, by show 0 < g; omega, Nat.zero_le _,
    fun i hi => absurd hi (hz i), fun i _ hi => absurd hi (hz i), fun i _ hi => absurd hi (hz i), fun i hi => absurd hi (hz i)⟩
section
variable {P : Program} {w : World} {K : PySem.W.Frag} {mg : Str → Option Value} {base : Heap} {CP CM : Addr}
def spCanStart : Sp := fun vs H Q _ => ∃ t g n l h : Nat, vs = [.int (t : Int), .int (g : Int), .int (n : Int), .int (l : Int), .int (h : Int)] ∧ Q (.bl (!decide (startNo t g n l h))) H
theorem scCanStart : FnScope ["term", "grades", "names", "youngest", "oldest"] ["term", "grades", "names", "youngest", "oldest"] (defScope sCanStart) := ⟨rfl, rfl, rfl, by decide +kernel, rfl, by decide +kernel, by decide +kernel⟩
theorem ok_canStart {f : Addr} {fd : FuncData} (F : Fun K "can_start" "can_start" sCanStart f fd) (T : TxS K mg CP CM) : FnOk P w K mg base CX0 1 f fd ["term", "grades", "names", "youngest", "oldest"] spCanStart := by
  refine F.ok scCanStart (fun vs H Q E h => ?_) (fun cdv A outer s H vs Q E hr h => ?_)
  · obtain ⟨t, g, n, l, h, rfl, _⟩ := h
    rfl
  · obtain ⟨t, g, n, l, h, rfl, q⟩ := h
    obtain ⟨t1, c1⟩ := T.cs ("MOST_YEARS_A_TERM", 20) (by decide +kernel)
    obtain ⟨t2, c2⟩ := T.cs ("LEAST_GRADES", 2) (by decide +kernel)
    obtain ⟨t3, c3⟩ := T.cs ("MOST_GRADES", 8) (by decide +kernel)
    obtain ⟨t4, c4⟩ := T.cs ("LEAST_NAMES", 2) (by decide +kernel)
    obtain ⟨t5, c5⟩ := T.cs ("MOST_NAMES", 16) (by decide +kernel)
    obtain ⟨t6, c6⟩ := T.cs ("GREATEST_AGE", 60) (by decide +kernel)
    refine ⟨_, pss_cons (ps_if (pt_not (pt_chain op_le op_le pe_int (pv 0) (pe_glob (v := .int 20) (by rfl) c1 ⟨_, rfl⟩))) (pss_one (ps_ret pe_bl)) pss_nil)
      (pss_cons (ps_if (pt_not (pt_chain op_le op_le (pe_glob (v := .int 2) (by rfl) c2 ⟨_, rfl⟩) (pv 1) (pe_glob (v := .int 8) (by rfl) c3 ⟨_, rfl⟩))) (pss_one (ps_ret pe_bl)) pss_nil)
      (pss_cons (ps_if (pt_not (pt_chain op_le op_le (pe_glob (v := .int 2) (by rfl) c4 ⟨_, rfl⟩) (pv 2) (pe_glob (v := .int 16) (by rfl) c5 ⟨_, rfl⟩))) (pss_one (ps_ret pe_bl)) pss_nil)
      (pss_one (ps_ret (pe_chain op_le op_le (pv 3) (pv 4) (pe_glob (v := .int 60) (by rfl) c6 ⟨_, rfl⟩)))))), ?_⟩
    have no : startNo t g n l h → Q (.bl false) H := fun z => by
      rw [decide_eq_true z] at q
      exact q
    have yes : ∀ {c : Bool}, (c = true ↔ ¬ startNo t g n l h) → Q (.bl c) H := fun {c} z => by
      have e : c = !decide (startNo t g n l h) := by
        rw [Bool.eq_iff_iff, z]
        simp
      rw [e]
      exact q
    unfold startNo GRADES at no yes
    refine ⟨_, rfl, _, _, rfl, rfl, _, rfl, ?_⟩
    refine ite2 (fun d1 => ?_) (fun d1 => ?_)
    · have d1' : (1 : Int) ≤ (t : Int) := of_decide_eq_true d1
      refine ⟨_, _, rfl, rfl, _, rfl, ?_⟩
      refine ite2 (fun d2 => ?_) (fun d2 => ?_)
      · have d2' : ¬ (t : Int) ≤ 20 := by simpa using d2
        exact no (by omega)
      · have d2' : (t : Int) ≤ 20 := by simpa using d2
        refine ⟨_, rfl, _, _, rfl, rfl, _, rfl, ?_⟩
        refine ite2 (fun d3 => ?_) (fun d3 => ?_)
        · have d3' : (2 : Int) ≤ (g : Int) := of_decide_eq_true d3
          refine ⟨_, _, rfl, rfl, _, rfl, ?_⟩
          refine ite2 (fun d4 => ?_) (fun d4 => ?_)
          · have d4' : ¬ (g : Int) ≤ 8 := by simpa using d4
            exact no (by omega)
          · have d4' : (g : Int) ≤ 8 := by simpa using d4
            refine ⟨_, rfl, _, _, rfl, rfl, _, rfl, ?_⟩
            refine ite2 (fun d5 => ?_) (fun d5 => ?_)
            · have d5' : (2 : Int) ≤ (n : Int) := of_decide_eq_true d5
              refine ⟨_, _, rfl, rfl, _, rfl, ?_⟩
              refine ite2 (fun d6 => ?_) (fun d6 => ?_)
              · have d6' : ¬ (n : Int) ≤ 16 := by simpa using d6
                exact no (by omega)
              · have d6' : (n : Int) ≤ 16 := by simpa using d6
                refine ⟨_, rfl, _, rfl, _, _, rfl, rfl, _, rfl, ?_⟩
                refine ite2 (fun d7 => ?_) (fun d7 => ?_)
                · have d7' : (l : Int) ≤ (h : Int) := of_decide_eq_true d7
                  refine ⟨_, _, rfl, rfl, yes ?_⟩
                  rw [decide_eq_true_eq]
                  omega
                · have d7' : ¬ (l : Int) ≤ (h : Int) := fun z => d7 (decide_eq_true z)
                  exact no (by omega)
            · have d5' : ¬ (2 : Int) ≤ (n : Int) := fun z => d5 (decide_eq_true z)
              exact ⟨_, rfl, iteT (no (by omega))⟩
        · have d3' : ¬ (2 : Int) ≤ (g : Int) := fun z => d3 (decide_eq_true z)
          exact ⟨_, rfl, iteT (no (by omega))⟩
    · have d1' : ¬ (1 : Int) ≤ (t : Int) := fun z => d1 (decide_eq_true z)
      exact ⟨_, rfl, iteT (no (by omega))⟩
def spPeopleInit (CP CM : Addr) : Sp := fun vs H Q _ => ∃ (x dx : Addr) (t g n l h : Nat), vs = [.ref x, .int (t : Int), .int (g : Int), .int (n : Int), .int (l : Int), .int (h : Int)] ∧ H x = some (.ins CP dx []) ∧ ¬ startNo t g n l h ∧
  ∀ H' m, H m = none → (∀ b o, H b = some o → b ≠ x → H' b = some o) → (∀ b, H' b = none → H b = none) → PAt CP CM H' x m [] (newBook t g n l h) → Q .non H'
theorem scPeopleInit : FnScope ["self", "term", "grades", "names", "youngest", "oldest"] ["self", "term", "grades", "names", "youngest", "oldest"] (defScope sPeopleInit) := ⟨rfl, rfl, rfl, by decide +kernel, rfl, by decide +kernel, by decide +kernel⟩
theorem ok_peopleInit {f : Addr} {fd : FuncData} (F : Fun K "__init__" "People.__init__" sPeopleInit f fd) (T : TxS K mg CP CM) : FnOk P w K mg base CX0 1 f fd ["self", "term", "grades", "names", "youngest", "oldest"] (spPeopleInit CP CM) := by
  refine F.ok scPeopleInit (fun vs H Q E h => ?_) (fun cdv A outer s H vs Q E hr h => ?_)
  · obtain ⟨x, dx, t, g, n, l, h, rfl, _⟩ := h
    rfl
  · obtain ⟨x, dx, t, g, n, l, h, rfl, hx, hok, q⟩ := h
    refine ⟨_, pss_cons (ps_fld (pv 0) (pv 1) rfl) (pss_cons (ps_fld (pv 0) (pv 2) rfl) (pss_cons (ps_fld (pv 0) (pv 3) rfl) (pss_cons (ps_fld (pv 0) (pv 4) rfl) (pss_cons (ps_fld (pv 0) (pv 5) rfl)
      (pss_cons (ps_fld (pv 0) pe_int rfl) (pss_cons (ps_fld (pv 0) (pe_lst pa_nil) rfl) (pss_cons (ps_fld (pv 0) pe_int rfl) (pss_one (ps_fld (pv 0) pe_int rfl))))))))), ?_⟩
    refine ⟨_, rfl, _, rfl, x, CP, dx, [], rfl, hx, T.clP, T.naP _ (by decide +kernel), (by show 0 < 1000; decide), ?_⟩
    have e1 : putF "term" (.int (t : Int)) [] = ([("term", V.int (t : Int))] : List (Str × V)) := rfl
    rw [e1]
    refine ⟨_, rfl, _, rfl, x, CP, dx, _, rfl, upd_same, T.clP, T.naP _ (by decide +kernel), (by show 1 < 1000; decide), ?_⟩
    rw [put_newN ["term"] rfl (by decide +kernel), upd_upd]
    refine ⟨_, rfl, _, rfl, x, CP, dx, _, rfl, upd_same, T.clP, T.naP _ (by decide +kernel), (by show 2 < 1000; decide), ?_⟩
    rw [put_newN ["term", "grades"] rfl (by decide +kernel), upd_upd]
    refine ⟨_, rfl, _, rfl, x, CP, dx, _, rfl, upd_same, T.clP, T.naP _ (by decide +kernel), (by show 3 < 1000; decide), ?_⟩
    rw [put_newN ["term", "grades", "names"] rfl (by decide +kernel), upd_upd]
    refine ⟨_, rfl, _, rfl, x, CP, dx, _, rfl, upd_same, T.clP, T.naP _ (by decide +kernel), (by show 4 < 1000; decide), ?_⟩
    rw [put_newN ["term", "grades", "names", "youngest"] rfl (by decide +kernel), upd_upd]
    refine ⟨_, rfl, x, CP, dx, _, rfl, upd_same, T.clP, T.naP _ (by decide +kernel), (by show 5 < 1000; decide), ?_⟩
    rw [put_newN ["term", "grades", "names", "youngest", "oldest"] rfl (by decide +kernel), upd_upd]
    refine ⟨Nat.zero_le _, fun m hm => ?_⟩
    have nmx : m ≠ x := fun z => by
      rw [z, upd_same] at hm
      cases hm
    have hm0 : H m = none := by
      rwa [upd_ne nmx] at hm
    refine ⟨_, rfl, x, CP, dx, _, rfl, (by rw [upd_ne nmx.symm, upd_same]), T.clP, T.naP _ (by decide +kernel), (by show 6 < 1000; decide), ?_⟩
    rw [put_newN ["term", "grades", "names", "youngest", "oldest", "year"] rfl (by decide +kernel)]
    refine ⟨_, rfl, x, CP, dx, _, rfl, upd_same, T.clP, T.naP _ (by decide +kernel), (by show 7 < 1000; decide), ?_⟩
    rw [put_newN ["term", "grades", "names", "youngest", "oldest", "year", "men"] rfl (by decide +kernel), upd_upd]
    refine ⟨_, rfl, x, CP, dx, _, rfl, upd_same, T.clP, T.naP _ (by decide +kernel), (by show 8 < 1000; decide), ?_⟩
    rw [put_newN ["term", "grades", "names", "youngest", "oldest", "year", "men", "behind"] rfl (by decide +kernel), upd_upd]
    refine q _ m hm0 (fun b o e nb => ?_) (fun b hb => upd_free b (upd_free b (upd_free b hb))) ⟨⟨dx, upd_same⟩, by rw [upd_ne nmx, upd_same]; rfl, rfl, fun i a e => by simp at e, .nil, newBook_wf hok⟩
    rw [upd_ne nb, upd_ne (ne_of_none e hm0), upd_ne nb]
    exact e
end
end AG
namespace AG
open PySem PySem.Spec PyProof.Rows L2 LamX Km499
abbrev sCopyMan : Stmt := top 5
abbrev sCopyPeople : Stmt := top 6
section
variable {P : Program} {w : World} {K : PySem.W.Frag} {mg : Str → Option Value} {base : Heap} {CP CM : Addr}
theorem same_two {H : Hp} {x dx : Addr} {o o' : HO} (hx : H x = none) (hdx : H dx = none) : Same H (upd (upd H dx o) x o') := fun b u e => by
  rw [upd_ne (ne_of_none e hx), upd_ne (ne_of_none e hdx)]
  exact e
/-- a new man like another -/
def spCopyMan (CM : Addr) : Sp := fun vs H Q _ => ∃ a m, vs = [.ref a] ∧ ManAt CM H a m ∧ ∀ H' x, Same H H' → H x = none → ManAt CM H' x m → Q (.ref x) H'
theorem scCopyMan : FnScope ["man", "twin"] ["man"] (defScope sCopyMan) := ⟨rfl, rfl, rfl, by decide +kernel, rfl, by decide +kernel, by decide +kernel⟩
theorem ok_copyMan {f fI : Addr} {fd fdI : FuncData} (F : Fun K "copied_man" "copied_man" sCopyMan f fd) (T : TxS K mg CP CM) (M : Mk K CM fI) (FI : Fun K "__init__" "Man.__init__" sManInit fI fdI) (bI : Binds K fdI ["self", "born", "father"] []) :
    FnOk P w K mg base CX0 3 f fd ["man"] (spCopyMan CM) := by
  have GI : FnOk P w K mg base CX0 1 fI fdI ["self", "born", "father"] (spManInit CM) := ok_manInit FI T
  refine F.ok scCopyMan (fun vs H Q E h => ?_) (fun cdv A outer s H vs Q E hr h => ?_)
  · obtain ⟨a, m, rfl, _⟩ := h
    rfl
  · obtain ⟨a, m, rfl, hM, q⟩ := h
    refine ⟨_, pss_cons (ps_set (i := 1) scCopyMan.nd rfl (Or.inl rfl) (pe_make M GI hr (by rfl) T.gM bI .nil pass0 (pa_cons (pe_fld (pv 0) rfl) (pa_cons (pe_fld (pv 0) rfl) pa_nil))))
      (pss_cons (ps_fld (pv 1) (pe_fld (pv 0) rfl) rfl)
      (pss_cons (ps_fld (pv 1) (pe_fld (pv 0) rfl) rfl)
      (pss_cons (ps_fld (pv 1) (pe_fld (pv 0) rfl) rfl)
      (pss_one (ps_ret (pv 1)))))), ?_⟩
    refine ⟨_, rfl, fM T hM (by decide +kernel) (mF_born m) ⟨_, rfl, fM T hM (by decide +kernel) (mF_father m) ?_⟩⟩
    intro y dy hy hdy nd
    refine ⟨y, dy, m.born, m.father, rfl, upd_same, rfl, ?_⟩
    rw [upd_upd]
    have st : ∀ fs, Same H (upd (upd H dy (.own y)) y (.ins CM dy fs)) := fun fs => same_two hy hdy
    have e0 : mF ⟨m.father, m.born, true, none, 0⟩ = mG (.int (m.born : Int)) (oV m.father) (.bl true) .non .non := rfl
    rw [e0]
    refine ⟨_, rfl, fM T (hM.same (st _)) (by decide +kernel) (mF_lives m) ⟨_, rfl, y, CM, dy, _, rfl, upd_same, T.clM, T.naM _ (by decide +kernel), (by show 5 < 1000; decide), ?_⟩⟩
    rw [mG_lives, upd_upd]
    refine ⟨_, rfl, fM T (hM.same (st _)) (by decide +kernel) (mF_set m) ⟨_, rfl, y, CM, dy, _, rfl, upd_same, T.clM, T.naM _ (by decide +kernel), (by show 5 < 1000; decide), ?_⟩⟩
    rw [mG_set, upd_upd]
    refine ⟨_, rfl, fM T (hM.same (st _)) (by decide +kernel) (mF_joined m) ⟨_, rfl, y, CM, dy, _, rfl, upd_same, T.clM, T.naM _ (by decide +kernel), (by show 5 < 1000; decide), ?_⟩⟩
    rw [mG_joined, upd_upd]
    exact ⟨_, rfl, q _ y (st _) hy ⟨dy, upd_same⟩⟩
/-- a new people like another -/
def spCopyPeople (CP CM : Addr) : Sp := fun vs H Q _ => ∃ p l as b, vs = [.ref p] ∧ PAt CP CM H p l as b ∧
  ∀ H' p' l' as', Same H H' → H p' = none → H l' = none → (∀ a ∈ as', H a = none) → PAt CP CM H' p' l' as' b → Q (.ref p') H'
theorem scCopyPeople : FnScope ["people", "twin", "man"] ["people"] (defScope sCopyPeople) := ⟨rfl, rfl, rfl, by decide +kernel, rfl, by decide +kernel, by decide +kernel⟩
theorem wf_start {b : Book} (h : WF b) : ¬ startNo b.term b.grades b.names b.low b.high := by
  have h1 := h.t1
  have h2 := h.t2
  have h3 := h.g1
  have h4 := h.g2
  have h5 := h.n1
  have h6 := h.n2
  have h7 := h.lh
  have h8 := h.h60
  unfold startNo GRADES
  omega
theorem ok_copyPeople {f fI fC : Addr} {fd fdI fdC : FuncData} (F : Fun K "copied_people" "copied_people" sCopyPeople f fd) (T : TxS K mg CP CM) (M : Mk K CP fI) (FI : Fun K "__init__" "People.__init__" sPeopleInit fI fdI) (bI : Binds K fdI ["self", "term", "grades", "names", "youngest", "oldest"] [])
    (AC : FnAt K mg "copied_man" sCopyMan fC fdC ["man"]) (GC : FnOk P w K mg base CX0 3 fC fdC ["man"] (spCopyMan CM)) :
    FnOk P w K mg base CX0 4 f fd ["people"] (spCopyPeople CP CM) := by
  have GI : FnOk P w K mg base CX0 1 fI fdI ["self", "term", "grades", "names", "youngest", "oldest"] (spPeopleInit CP CM) := ok_peopleInit FI T
  refine F.ok scCopyPeople (fun vs H Q E h => ?_) (fun cdv A outer s H vs Q E hr h => ?_)
  · obtain ⟨p, l, as, b, rfl, _⟩ := h
    rfl
  · obtain ⟨p, l, as, b, rfl, hP, q⟩ := h
    refine ⟨_, pss_cons (ps_set (i := 1) scCopyPeople.nd rfl (Or.inl rfl) (pe_make M GI (hr.mono (by decide)) (by rfl) T.gP bI .nil pass0 (pa_cons (pe_fld (pv 0) rfl) (pa_cons (pe_fld (pv 0) rfl) (pa_cons (pe_fld (pv 0) rfl) (pa_cons (pe_fld (pv 0) rfl) (pa_cons (pe_fld (pv 0) rfl) pa_nil)))))))
      (pss_cons (ps_fld (pv 1) (pe_fld (pv 0) rfl) rfl)
      (pss_cons (ps_fld (pv 1) (pe_lc (own := [("man", 2)]) (g := gName 2) (tt := tYes) (te := tCall (spCopyMan CM) [] E0 (tCons (tVar 2) tNil)) rfl scCopyPeople.nd (pi_list (pe_fld (pv 0) rfl))
          (blkOk_by (own := [("man", 2)]) (N := ["people", "twin", "man"]) (sc := defScope sCopyPeople) (by decide +kernel))
          (fun _ _ _ _ _ => pg_name (i := 2) scCopyPeople.nd rfl (Or.inl rfl)) (fun _ _ _ _ _ => pts_nil)
          (fun _ _ _ _ _ => pe_call GC hr (by rfl) AC.g AC.fn.kp AC.bi .nil pass0 (pa_cons (pv 2) pa_nil))) rfl)
      (pss_cons (ps_fld (pv 1) (pe_fld (pv 0) rfl) rfl)
      (pss_cons (ps_fld (pv 1) (pe_fld (pv 0) rfl) rfl)
      (pss_one (ps_ret (pv 1))))))), ?_⟩
    refine ⟨_, rfl, fP T hP (by decide +kernel) (pF_term b l) ⟨_, rfl, fP T hP (by decide +kernel) (pF_grades b l) ⟨_, rfl, fP T hP (by decide +kernel) (pF_names b l) ⟨_, rfl, fP T hP (by decide +kernel) (pF_low b l) ⟨_, rfl, fP T hP (by decide +kernel) (pF_high b l) ?_⟩⟩⟩⟩⟩
    intro y dy hy hdy nd
    refine ⟨y, dy, b.term, b.grades, b.names, b.low, b.high, rfl, upd_same, wf_start hP.wf, fun H1 m hm k1 f1 hP1 => ⟨rfl, ?_⟩⟩
    have s1 : Same H H1 := fun x o e => k1 x o (by rw [upd_ne (ne_of_none e hy), upd_ne (ne_of_none e hdy)]; exact e) (ne_of_none e hy)
    obtain ⟨d1, o1⟩ := hP1.obj
    have hPa := hP.same s1
    refine ⟨_, rfl, fP T hPa (by decide +kernel) (pF_year b l) ⟨_, rfl, y, CP, d1, _, rfl, o1, T.clP, T.naP _ (by decide +kernel), (by show 9 < 1000; decide), ?_⟩⟩
    rw [pP_year]
    obtain ⟨H2, e2⟩ : ∃ H2, H2 = upd H1 y (.ins CP d1 (pF { newBook b.term b.grades b.names b.low b.high with year := b.year } m)) := ⟨_, rfl⟩
    rw [← e2]
    have s2 : Same H H2 := fun x o e => by
      rw [e2, upd_ne (ne_of_none e hy)]
      exact s1 _ _ e
    have o2 : H2 y = some (.ins CP d1 (pF { newBook b.term b.grades b.names b.low b.high with year := b.year } m)) := by
      rw [e2, upd_same]
    have hP2 := hP.same s2
    refine ⟨_, rfl, fP T hP2 (by decide +kernel) (pF_men b l) ⟨l, rfl, ⟨_, SqL.of hP2.lst⟩, fun D hD => ?_⟩⟩
    refine lc_list (K := K) (a := l) (xs := as.map V.ref) (fun i H' => Same H2 H' ∧ ∃ bs : List Addr, bs.length = i ∧ H' D = some (.lst (bs.map V.ref)) ∧ (∀ j a, bs[j]? = some a → ManAt CM H' a (b.at_ j)) ∧ bs.Nodup ∧ ∀ a ∈ bs, H2 a = none ∧ a ≠ D)
      ⟨same_new hD, [], rfl, upd_same, fun j a e => by simp at e, .nil, fun a ha => by cases ha⟩ (fun i H' _ h => SqL.of (h.1 _ _ hP2.lst)) ?_ ?_
    · rintro i x H3 ex ⟨s3, bs, hl, d3, hm3, nd3, fr3⟩
      rw [List.getElem?_map] at ex
      cases ea : as[i]? with
      | none =>
        rw [ea] at ex
        cases ex
      | some a =>
        rw [ea] at ex
        obtain rfl : V.ref a = x := Option.some.inj ex
        have hi : i < as.length := (List.getElem?_eq_some_iff.mp ea).1
        have hMa := (hP2.same s3).men i a ea
        refine ⟨rfl, _, rfl, a, _, rfl, hMa, fun H4 z s4 hz hMz => ?_⟩
        have nzD : z ≠ D := fun e => by
          rw [e, d3] at hz
          cases hz
        have d4 := s4 _ _ d3
        have nD : ∀ {x o}, H2 x = some o → x ≠ D := fun e => ne_of_none e hD
        refine ⟨_, d4, ?_, ?_, bs ++ [z], ?_, ?_, fun j c e => ?_, ?_, fun c hc => ?_⟩
        · rw [List.length_map, hl]
          have h3 := hP.len
          have h4 := hP.few
          exact Nat.lt_of_le_of_lt (by omega : i ≤ 24) (by decide)
        · intro x o e
          rw [upd_ne (nD e)]
          exact s4 _ _ (s3 _ _ e)
        · rw [List.length_append, hl]
          rfl
        · rw [upd_same, List.map_append]
          rfl
        · by_cases c1 : j < bs.length
          · rw [List.getElem?_append_left c1] at e
            obtain ⟨dx, hx⟩ := hm3 j c e
            exact ⟨dx, by rw [upd_ne (fr3 c (List.mem_of_getElem? e)).2]; exact s4 _ _ hx⟩
          · have c2 : j = bs.length := by
              have := (List.getElem?_eq_some_iff.mp e).1
              simp at this
              omega
            have ez : c = z := by
              rw [c2] at e
              simpa using e.symm
            rw [ez, c2, hl]
            obtain ⟨dx, hx⟩ := hMz
            exact ⟨dx, by rw [upd_ne nzD]; exact hx⟩
        · rw [List.nodup_append]
          refine ⟨nd3, by simp, fun c hc y hy => ?_⟩
          have ey : y = z := by simpa using hy
          rw [ey]
          intro e
          obtain ⟨j, ej⟩ := List.mem_iff_getElem?.mp hc
          obtain ⟨dx, hx⟩ := hm3 j c ej
          rw [e, hz] at hx
          cases hx
        · rcases List.mem_append.mp hc with h | h
          · exact fr3 c h
          · have ez : c = z := by simpa using h
            rw [ez]
            exact ⟨s3.free hz, nzD⟩
    · rintro H3 ⟨s3, bs, hl, d3, hm3, nd3, fr3⟩
      have o3 := s3 _ _ o2
      have nDy : D ≠ y := fun e => by
        rw [e, o2] at hD
        cases hD
      have nby : ∀ a ∈ bs, a ≠ y := fun a ha e => by
        have z := (fr3 a ha).1
        rw [e, o2] at z
        cases z
      refine ⟨_, rfl, y, CP, d1, _, rfl, o3, T.clP, T.naP _ (by decide +kernel), (by show 9 < 1000; decide), ?_⟩
      rw [pP_men]
      have sy : ∀ o, Same H (upd H3 y o) := fun o x u e => by
        rw [upd_ne (ne_of_none e hy)]
        exact s3 _ _ (s2 _ _ e)
      refine ⟨_, rfl, fP T (hP.same (sy _)) (by decide +kernel) (pF_behind b l) ⟨_, rfl, y, CP, d1, _, rfl, upd_same, T.clP, T.naP _ (by decide +kernel), (by show 9 < 1000; decide), ?_⟩⟩
      rw [pP_behind, upd_upd]
      refine ⟨_, rfl, fP T (hP.same (sy _)) (by decide +kernel) (pF_office b l) ⟨_, rfl, y, CP, d1, _, rfl, upd_same, T.clP, T.naP _ (by decide +kernel), (by show 9 < 1000; decide), ?_⟩⟩
      rw [pP_office, upd_upd]
      refine ⟨_, rfl, q _ y D bs (sy _) hy (s2.free hD) (fun a ha => s2.free (fr3 a ha).1) ⟨⟨d1, upd_same⟩, ?_, ?_, fun i a e => ?_, nd3, hP.wf⟩⟩
      · rw [upd_ne nDy]
        exact d3
      · rw [hl, List.length_map, hP.len]
      · obtain ⟨dx, hx⟩ := hm3 i a e
        exact ⟨dx, by rw [upd_ne (nby a (List.mem_of_getElem? e))]; exact hx⟩
end
end AG
namespace AG
open PySem PySem.Spec PyProof.Rows L2 LamX Km499
abbrev sIsChange : Stmt := top 40
abbrev sMakeChange : Stmt := top 41
abbrev sIsHist : Stmt := top 49
abbrev sAnsHist : Stmt := top 50
abbrev sAnsQ : Stmt := top 74
/-! ### a dict of defs by whole numbers -/
def isTab : List DictEntry → List (Int × Addr) → Prop
  | [], [] => True
  | e :: es, k :: ks => (∃ t, e.key = .int k.1 t) ∧ (e.hash == hashInt k.1) = true ∧ e.val = .ref k.2 ∧ isTab es ks
  | _, _ => False
theorem isTab.keys : ∀ {es : List DictEntry} {ks : List (Int × Addr)}, isTab es ks → intKeys es = true
  | [], [], _ => rfl
  | e :: es, k :: ks, ⟨⟨t, e1⟩, e2, _, h⟩ => by
    unfold intKeys
    rw [List.all_cons, e1]
    have h2 : intKeys es = true := isTab.keys h
    unfold intKeys at h2
    rw [h2]
    simpa using e2
theorem isTab.find : ∀ {es : List DictEntry} {ks : List (Int × Addr)} (i : Int), isTab es ks → (es.find? fun e => Value.isInt i e.key).map (·.val) = (ks.find? fun k => k.1 == i).map fun k => Value.ref k.2
  | [], [], _, _ => rfl
  | e :: es, k :: ks, i, ⟨⟨t, e1⟩, e2, e3, h⟩ => by
    rw [List.find?_cons, List.find?_cons, e1]
    have e4 : Value.isInt i (.int k.1 t) = (k.1 == i) := by
      unfold Value.isInt
      rfl
    rw [e4]
    cases (k.1 == i) with
    | true =>
      show some e.val = some (Value.ref k.2)
      rw [e3]
    | false => exact isTab.find i h
theorem find_nodup : ∀ {ks : List (Int × Addr)} {i : Nat} {k : Int × Addr}, (ks.map (·.1)).Nodup → ks[i]? = some k → ks.find? (fun x => x.1 == k.1) = some k
  | [], i, k, _, h => by simp at h
  | c :: ks, 0, k, _, h => by
    have e : c = k := Option.some.inj h
    subst e
    rw [List.find?_cons, beq_self_eq_true]
  | c :: ks, i + 1, k, nd, h => by
    have nd' : c.1 ∉ ks.map (·.1) ∧ (ks.map (·.1)).Nodup := List.nodup_cons.mp nd
    have h' : ks[i]? = some k := h
    have hk : k.1 ∈ ks.map (·.1) := List.mem_map.mpr ⟨k, List.mem_of_getElem? h', rfl⟩
    have hc : (c.1 == k.1) = false := by
      rw [beq_eq_false_iff_ne]
      intro e
      exact nd'.1 (e ▸ hk)
    rw [List.find?_cons, hc]
    exact find_nodup nd'.2 h'
/-- the dict at d, by its entries -/
structure TabD (K : PySem.W.Frag) (mg : Str → Option Value) (x : Str) (d : Addr) (es : List DictEntry) (n : Nat) (ks : List (Int × Addr)) (N : List Int) : Prop where
  at_ : K.lookup d = some ⟨.type "dict", none, .dict es.toArray n, #[]⟩
  tab : isTab es ks
  low : (d == sysModules) = false
  g : mg x = some (.ref d)
  nm : ks.map (·.1) = N
theorem any_find (i : Int) : ∀ ks : List (Int × Addr), (ks.find? fun k => k.1 == i).isSome = ks.any ((fun x => x == i) ∘ fun x => x.1)
  | [] => rfl
  | k :: ks => by
    rw [List.find?_cons, List.any_cons]
    show _ = ((k.1 == i) || _)
    cases (k.1 == i) with
    | true => rfl
    | false => exact (any_find i ks).trans (Bool.false_or _).symm
section
variable {K : PySem.W.Frag} {mg : Str → Option Value} {x : Str} {d : Addr} {es : List DictEntry} {n : Nat} {ks : List (Int × Addr)} {N : List Int}
theorem TabD.dict (D : TabD K mg x d es n ks N) : IDict K d es n := ⟨D.at_, D.tab.keys, D.low⟩
theorem TabD.get (D : TabD K mg x d es n ks N) (i : Int) : D.dict.get i = (ks.find? fun k => k.1 == i).map fun k => Value.ref k.2 := by
  unfold IDict.get findBy
  rw [List.find?_toArray]
  exact D.tab.find i
theorem TabD.has (D : TabD K mg x d es n ks N) (i : Int) : (D.dict.get i).isSome = N.any (· == i) := by
  rw [D.get, ← D.nm, Option.isSome_map, List.any_map]
  exact any_find i ks
end
/-! ### the calls by number -/
def chgs : List (Nat × (List Nat → Call)) := [(1, fun xs => .born (xs.getD 0 0)), (1, fun xs => .dies (xs.getD 0 0)), (1, fun xs => .join (xs.getD 0 0)), (0, fun _ => .joinAll), (1, fun xs => .pass (xs.getD 0 0)), (1, fun xs => .behind (xs.getD 0 0)), (1, fun xs => .office (xs.getD 0 0))]
def qsts : List (Nat × (List Nat → Call)) := [(1, fun xs => .grade (xs.getD 0 0)), (1, fun xs => .setIn (xs.getD 0 0)), (1, fun xs => .strength (xs.getD 0 0)), (0, fun _ => .ruler), (0, fun _ => .speaker), (0, fun _ => .may), (0, fun _ => .missed), (1, fun xs => .when_ (xs.getD 0 0)), (1, fun xs => .age (xs.getD 0 0)),
  (2, fun xs => .senior (xs.getD 0 0) (xs.getD 1 0)), (0, fun _ => .twisted), (1, fun xs => .sons (xs.getD 0 0)), (1, fun xs => .line (xs.getD 0 0)), (0, fun _ => .retired), (0, fun _ => .next), (1, fun xs => .named (xs.getD 0 0)), (1, fun xs => .told (xs.getD 0 0))]
def nC : List Int := [1, 2, 3, 4, 5, 6, 7]
def nQ : List Int := [8, 9, 10, 11, 12, 13, 14, 15, 16, 17, 18, 19, 20, 21, 22, 23, 24]
def nH : List Int := [25, 26, 27]
/-- the i-th def of a dict -/
theorem key_at {ks : List (Int × Addr)} {N : List Int} (h : ks.map (·.1) = N) {i : Nat} {k : Int} (hk : N[i]? = some k) : ∃ f, ks[i]? = some (k, f) := by
  rw [← h, List.getElem?_map] at hk
  cases e : ks[i]? with
  | none =>
    rw [e] at hk
    cases hk
  | some c =>
    rw [e] at hk
    have e2 : c.1 = k := Option.some.inj hk
    exact ⟨c.2, by rw [← e2]⟩
section
variable {P : Program} {w : World} {K : PySem.W.Frag} {mg : Str → Option Value} {base : Heap} {CP CM : Addr} {d : Addr} {es : List DictEntry} {n : Nat} {ks : List (Int × Addr)}
def spIn (N : List Int) : Sp := fun vs H Q _ => ∃ i, vs = [.int i] ∧ Q (.bl (N.any (· == i))) H
theorem scIsChange : FnScope ["number"] ["number"] (defScope sIsChange) := ⟨rfl, rfl, rfl, by decide +kernel, rfl, by decide +kernel, by decide +kernel⟩
theorem ok_isChange {f : Addr} {fd : FuncData} (F : Fun K "is_change" "is_change" sIsChange f fd) (D : TabD K mg "CHANGES" d es n ks nC) : FnOk P w K mg base CX0 1 f fd ["number"] (spIn nC) := by
  refine F.ok scIsChange (fun vs H Q E h => ?_) (fun cdv A outer s H vs Q E hr h => ?_)
  · obtain ⟨i, rfl, _⟩ := h
    rfl
  · obtain ⟨i, rfl, q⟩ := h
    refine ⟨_, pss_one (ps_ret (pe_cmpR (op_inI D.dict) (pv 0) (pe_glob (v := .ref d) (by rfl) D.g rfl) (by rfl))), ?_⟩
    rw [← D.has] at q
    exact ⟨_, rfl, i, rfl, rfl, q⟩
theorem scIsHist : FnScope ["number"] ["number"] (defScope sIsHist) := ⟨rfl, rfl, rfl, by decide +kernel, rfl, by decide +kernel, by decide +kernel⟩
theorem ok_isHist {f : Addr} {fd : FuncData} (F : Fun K "is_history_call" "is_history_call" sIsHist f fd) (D : TabD K mg "HISTORY_CALLS" d es n ks nH) : FnOk P w K mg base CX0 1 f fd ["number"] (spIn nH) := by
  refine F.ok scIsHist (fun vs H Q E h => ?_) (fun cdv A outer s H vs Q E hr h => ?_)
  · obtain ⟨i, rfl, _⟩ := h
    rfl
  · obtain ⟨i, rfl, q⟩ := h
    refine ⟨_, pss_one (ps_ret (pe_cmpR (op_inI D.dict) (pv 0) (pe_glob (v := .ref d) (by rfl) D.g rfl) (by rfl))), ?_⟩
    rw [← D.has] at q
    exact ⟨_, rfl, i, rfl, rfl, q⟩
/-- a change by its number -/
def spMake (K : PySem.W.Frag) (CP CM : Addr) : Sp := fun vs H Q E => ∃ (i m : Nat) (c : List Nat → Call) (p g : V), vs = [p, .int ((i : Int) + 1), g] ∧ chgs[i]? = some (m, c) ∧ spC K CP CM m c [p, g] H Q E
theorem scMakeChange : FnScope ["people", "number", "given"] ["people", "number", "given"] (defScope sMakeChange) := ⟨rfl, rfl, rfl, by decide +kernel, rfl, by decide +kernel, by decide +kernel⟩
theorem lt_of_getElem? {α : Type} {l : List α} {i : Nat} {a : α} (h : l[i]? = some a) : i < l.length := (List.getElem?_eq_some_iff.mp h).1
theorem ok_makeChange {f : Addr} {fd : FuncData} {k : Nat} (F : Fun K "make_change" "make_change" sMakeChange f fd) (D : TabD K mg "CHANGES" d es n ks nC)
    (A0 : ∀ (i m : Nat) (c : List Nat → Call) (k' : Int) (a : Addr), chgs[i]? = some (m, c) → ks[i]? = some (k', a) → Held P w K mg base k a (spC K CP CM m c)) : FnOk P w K mg base CX0 (k + 1) f fd ["people", "number", "given"] (spMake K CP CM) := by
  refine F.ok scMakeChange (fun vs H Q E h => ?_) (fun cdv A outer s H vs Q E hr h => ?_)
  · obtain ⟨i, m, c, p, g, rfl, _⟩ := h
    rfl
  · obtain ⟨i, m, c, p, g, rfl, hc, q⟩ := h
    refine ⟨_, pss_one (ps_ret (pe_callE (k := k) (S := fun a sp => ∃ (i : Nat) (m : Nat) (c : List Nat → Call) (k' : Int), chgs[i]? = some (m, c) ∧ ks[i]? = some (k', a) ∧ sp = spC K CP CM m c)
      (fun a sp ⟨i, m, c, k', h1, h2, e⟩ => by rw [e]; exact A0 i m c k' a h1 h2) hr (pe_ix (ix_I D.dict) (pe_glob (v := .ref d) (by rfl) D.g rfl) (pv 1) (fun _ _ => rfl)) (pa_cons (pv 0) (pa_cons (pv 2) pa_nil)))), ?_⟩
    have hi : i < 7 := lt_of_getElem? hc
    have hN : nC[i]? = some ((i : Int) + 1) := by
      have : i = 0 ∨ i = 1 ∨ i = 2 ∨ i = 3 ∨ i = 4 ∨ i = 5 ∨ i = 6 := by omega
      rcases this with rfl | rfl | rfl | rfl | rfl | rfl | rfl <;> rfl
    obtain ⟨a, ha⟩ := key_at D.nm hN
    have nd : (ks.map (·.1)).Nodup := by
      rw [D.nm]
      decide
    have hg : D.dict.get ((i : Int) + 1) = some (.ref a) := by
      rw [D.get, find_nodup nd ha]
      rfl
    exact ⟨_, rfl, _, .ref a, .ref a, rfl, rfl, hg, rfl, a, _, rfl, ⟨i, m, c, _, hc, ha, rfl⟩, _, rfl, _, rfl, q⟩
/-- a question by its number -/
def spAsk (K : PySem.W.Frag) (CP CM : Addr) (T : List (Addr × Str)) : Sp := fun vs H Q E => ∃ (i m : Nat) (c : List Nat → Call) (p g : V), vs = [p, .int ((i : Int) + 8), g] ∧ qsts[i]? = some (m, c) ∧ spQT K CP CM T m c [p, g] H Q E
theorem scAnsQ : FnScope ["people", "number", "given"] ["people", "number", "given"] (defScope sAnsQ) := ⟨rfl, rfl, rfl, by decide +kernel, rfl, by decide +kernel, by decide +kernel⟩
theorem ok_ansQ {f : Addr} {fd : FuncData} {k : Nat} {Tb : List (Addr × Str)} (F : Fun K "answer_question" "answer_question" sAnsQ f fd) (D : TabD K mg "QUESTIONS" d es n ks nQ)
    (A0 : ∀ (i m : Nat) (c : List Nat → Call) (k' : Int) (a : Addr), qsts[i]? = some (m, c) → ks[i]? = some (k', a) → Held P w K mg base k a (spQT K CP CM Tb m c)) : FnOk P w K mg base CX0 (k + 1) f fd ["people", "number", "given"] (spAsk K CP CM Tb) := by
  refine F.ok scAnsQ (fun vs H Q E h => ?_) (fun cdv A outer s H vs Q E hr h => ?_)
  · obtain ⟨i, m, c, p, g, rfl, _⟩ := h
    rfl
  · obtain ⟨i, m, c, p, g, rfl, hc, q⟩ := h
    refine ⟨_, pss_one (ps_ret (pe_callE (k := k) (S := fun a sp => ∃ (i : Nat) (m : Nat) (c : List Nat → Call) (k' : Int), qsts[i]? = some (m, c) ∧ ks[i]? = some (k', a) ∧ sp = spQT K CP CM Tb m c)
      (fun a sp ⟨i, m, c, k', h1, h2, e⟩ => by rw [e]; exact A0 i m c k' a h1 h2) hr (pe_ix (ix_I D.dict) (pe_glob (v := .ref d) (by rfl) D.g rfl) (pv 1) (fun _ _ => rfl)) (pa_cons (pv 0) (pa_cons (pv 2) pa_nil)))), ?_⟩
    have hi : i < 17 := lt_of_getElem? hc
    have hN : nQ[i]? = some ((i : Int) + 8) := by
      have : i = 0 ∨ i = 1 ∨ i = 2 ∨ i = 3 ∨ i = 4 ∨ i = 5 ∨ i = 6 ∨ i = 7 ∨ i = 8 ∨ i = 9 ∨ i = 10 ∨ i = 11 ∨ i = 12 ∨ i = 13 ∨ i = 14 ∨ i = 15 ∨ i = 16 := by omega
      rcases this with rfl | rfl | rfl | rfl | rfl | rfl | rfl | rfl | rfl | rfl | rfl | rfl | rfl | rfl | rfl | rfl | rfl <;> rfl
    obtain ⟨a, ha⟩ := key_at D.nm hN
    have nd : (ks.map (·.1)).Nodup := by
      rw [D.nm]
      decide
    have hg : D.dict.get ((i : Int) + 8) = some (.ref a) := by
      rw [D.get, find_nodup nd ha]
      rfl
    exact ⟨_, rfl, _, .ref a, .ref a, rfl, rfl, hg, rfl, a, _, rfl, ⟨i, m, c, _, hc, ha, rfl⟩, _, rfl, _, rfl, q⟩
end
end AG
namespace AG
open PySem PySem.Spec PyProof.Rows L2 LamX Km499
abbrev sHistInit : Stmt := inClass (top 44) 0
abbrev sChange : Stmt := inClass (top 44) 1
abbrev sMoveOn : Stmt := inClass (top 44) 2
abbrev sBack : Stmt := top 45
abbrev sAgain : Stmt := top 46
abbrev sState : Stmt := top 47
/-! ### the history's object -/
def hN : List Str := ["people", "past", "undone"]
def hF (p lp lu : Addr) : List (Str × V) := [("people", .ref p), ("past", .ref lp), ("undone", .ref lu)]
theorem hF_n (p lp lu : Addr) : (hF p lp lu).map (·.1) = hN := rfl
section
variable (p lp lu q : Addr)
theorem hF_people : (hF p lp lu).lookup ("people" : Str) = some (.ref p) := lk_at hN (hF_n p lp lu) 0 rfl (by decide +kernel)
theorem hF_past : (hF p lp lu).lookup ("past" : Str) = some (.ref lp) := lk_at hN (hF_n p lp lu) 1 rfl (by decide +kernel)
theorem hF_undone : (hF p lp lu).lookup ("undone" : Str) = some (.ref lu) := lk_at hN (hF_n p lp lu) 2 rfl (by decide +kernel)
theorem hF_no {x : Str} (d : hN.all (fun g => !(x == g)) = true) : (hF p lp lu).lookup x = none := lk_none hN (hF_n p lp lu) d
theorem hP_people : putF "people" (.ref q) (hF p lp lu) = hF q lp lu := put_at hN (hF_n p lp lu) 0 rfl (by decide +kernel)
theorem hP_undone : putF "undone" (.ref q) (hF p lp lu) = hF p lp q := put_at hN (hF_n p lp lu) 2 rfl (by decide +kernel)
end
structure TxH (K : PySem.W.Frag) (mg : Str → Option Value) (CH : Addr) : Prop where
  cl : Cls K CH
  na : ∀ x ∈ hN, NoAttr K CH x
  g : mg "History" = some (.ref CH)
section
variable {K : PySem.W.Frag} {mg : Str → Option Value} {CH h dh p lp lu : Addr} {H : Hp} {f : Str} {v : V}
theorem fH {R : V → Prop} (T : TxH K mg CH) (o : H h = some (.ins CH dh (hF p lp lu))) (hf : f ∈ hN) (lk : (hF p lp lu).lookup f = some v) (q : R v) : ∃ a C dx fs w, V.ref h = V.ref a ∧ H a = some (.ins C dx fs) ∧ Cls K C ∧ NoAttr K C f ∧ fs.lookup f = some w ∧ R w :=
  ⟨h, CH, dh, _, v, rfl, o, T.cl, T.na f hf, lk, q⟩
theorem cH {R : Prop} (o : H h = some (.ins CH dh (hF p lp lu))) (d : hN.all (fun g => !(f == g)) = true) (q : R) : ∃ a dx fs, V.ref h = V.ref a ∧ H a = some (.ins CH dx fs) ∧ fs.lookup f = none ∧ R :=
  ⟨h, dh, _, rfl, o, hF_no p lp lu d, q⟩
end
/-! ### how a history lies in the heap -/
section
variable {CP CM CH : Addr} {H H' : Hp}
theorem PAt.keep {p l : Addr} {as : List Addr} {b : Book} (P : PAt CP CM H p l as b) (k : ∀ x, x = p ∨ x = l ∨ x ∈ as → ∀ o, H x = some o → (∀ ps, o ≠ .tbl ps) → H' x = some o) : PAt CP CM H' p l as b := by
  obtain ⟨dx, h1⟩ := P.obj
  refine ⟨⟨dx, k p (.inl rfl) _ h1 fun _ z => by cases z⟩, k l (.inr (.inl rfl)) _ P.lst (fun _ z => by cases z), P.len, fun i a e => ?_, P.nd, P.wf⟩
  obtain ⟨dy, h2⟩ := P.men i a e
  exact ⟨dy, k a (.inr (.inr (List.mem_of_getElem? e))) _ h2 fun _ z => by cases z⟩
/-- a people all of whose objects are in Z -/
def PZ (CP CM : Addr) (Z : List Addr) (H : Hp) (q : Addr × Book) : Prop := ∃ l as, PAt CP CM H q.1 l as q.2 ∧ q.1 ∈ Z ∧ l ∈ Z ∧ ∀ a ∈ as, a ∈ Z
theorem PZ.keep {Z Z' : List Addr} {q : Addr × Book} (h : PZ CP CM Z H q) (k : ∀ x ∈ Z, ∀ o, H x = some o → (∀ ps, o ≠ .tbl ps) → H' x = some o) (s : ∀ x ∈ Z, x ∈ Z') : PZ CP CM Z' H' q := by
  obtain ⟨l, as, P, h1, h2, h3⟩ := h
  refine ⟨l, as, P.keep fun x hx => k x ?_, s _ h1, s _ h2, fun a ha => s _ (h3 a ha)⟩
  rcases hx with rfl | rfl | hx
  · exact h1
  · exact h2
  · exact h3 x hx
def refs (qs : List (Addr × Book)) : List V := (qs.map fun q => V.ref q.1).reverse
theorem refs_cons (q : Addr × Book) (qs : List (Addr × Book)) : refs (q :: qs) = refs qs ++ [.ref q.1] := by
  unfold refs
  rw [List.map_cons, List.reverse_cons]
theorem refs_len (qs : List (Addr × Book)) : (refs qs).length = qs.length := by
  unfold refs
  rw [List.length_reverse, List.length_map]
structure HAt (CP CM CH : Addr) (d : Desk) (h : Addr) (F : List Addr) (H : Hp) (Z : List Addr) (dh lp lu : Addr) (n : Addr × Book) (qs us : List (Addr × Book)) : Prop where
  ed : d = ⟨n.2, qs.map (·.2), us.map (·.2)⟩
  oh : H h = some (.ins CH dh (hF n.1 lp lu))
  ol : H lp = some (.lst (refs qs))
  ou : H lu = some (.lst (refs us))
  lpu : lp ≠ lu
  zl : lp ∉ Z
  zu : lu ∉ Z
  zh : h ∉ Z
  fh : h ∈ F
  fl : lp ∈ F
  fu : lu ∈ F
  fz : ∀ z ∈ Z, z ∈ F
  pn : PZ CP CM Z H n
  pq : ∀ q ∈ qs, PZ CP CM Z H q
  pu : ∀ q ∈ us, PZ CP CM Z H q
  le : qs.length + us.length ≤ 20
def HA (CP CM CH : Addr) (d : Desk) (h : Addr) (F : List Addr) (H : Hp) : Prop := ∃ Z dh lp lu n qs us, HAt CP CM CH d h F H Z dh lp lu n qs us
theorem HA.stay {d : Desk} {h : Addr} {F : List Addr} (a : HA CP CM CH d h F H) (k : ∀ b ∈ F, ∀ o, H b = some o → (∀ ps, o ≠ .tbl ps) → H' b = some o) : HA CP CM CH d h F H' := by
  obtain ⟨Z, dh, lp, lu, n, qs, us, A⟩ := a
  have kz : ∀ x ∈ Z, ∀ o, H x = some o → (∀ ps, o ≠ .tbl ps) → H' x = some o := fun x hx => k x (A.fz x hx)
  exact ⟨Z, dh, lp, lu, n, qs, us, A.ed, k h A.fh _ A.oh (fun _ z => by cases z), k lp A.fl _ A.ol (fun _ z => by cases z), k lu A.fu _ A.ou (fun _ z => by cases z), A.lpu, A.zl, A.zu, A.zh, A.fh, A.fl, A.fu, A.fz,
    A.pn.keep kz fun _ z => z, fun q hq => (A.pq q hq).keep kz fun _ z => z, fun q hq => (A.pu q hq).keep kz fun _ z => z, A.le⟩
def Ex (F : List Addr) (H : Hp) : Prop := ∀ b ∈ F, ∃ o, H b = some o ∧ ∀ ps, o ≠ .tbl ps
/-- behind a call on a history -/
def HPost (CP CM CH : Addr) (T : List (Addr × Str)) (d : Desk) (a : Ans) (h : Addr) (F : List Addr) (H : Hp) (Q : VK) : Prop := ∀ H' D F', KeptT F H H' → Tabs T H' → NewN H D → D ∉ F' → (∀ b ∈ F, b ∈ F') →
  (∀ b ∈ F', (∃ o, H' b = some o ∧ ∀ ps, o ≠ .tbl ps) ∧ (b ∈ F ∨ NewN H b)) → HA CP CM CH d h F' H' → H' D = some (.lst (ansV a)) → Q (.ref D) H'
/-- the answer is a new list, what the history is made of in F as before -/
theorem HPost.fin {T : List (Addr × Str)} {d : Desk} {a : Ans} {h D : Addr} {F : List Addr} {H1 : Hp} {Q : VK} {vs : List V} (q : HPost CP CM CH T d a h F H Q) (k : ∀ x o, H x = some o → x ∉ F → H1 x = some o) (fr : ∀ x, H1 x = none → H x = none) (t : Tabs T H1) (x : Ex F H1) (ha : HA CP CM CH d h F H1) (hD : H1 D = none) (e : vs = ansV a) :
    Q (.ref D) (upd H1 D (.lst vs)) := by
  have s := same_new (o := HO.lst vs) hD
  refine q _ D F (fun y o e1 _ n => s _ _ (k y o e1 n)) (t.ext s) (NewN.of (fr D hD)) (fun z => ?_) (fun _ z => z) (fun b hb => ⟨?_, .inl hb⟩) (ha.stay fun b _ o e1 _ => s _ _ e1) (by rw [upd_same, e])
  · obtain ⟨o, ho, _⟩ := x D z
    rw [hD] at ho
    cases ho
  · obtain ⟨o, ho, n⟩ := x b hb
    exact ⟨o, s _ _ ho, n⟩
/-- all stands as it was -/
theorem HPost.same {T : List (Addr × Str)} {d : Desk} {a : Ans} {h D : Addr} {F : List Addr} {Q : VK} {vs : List V} (q : HPost CP CM CH T d a h F H Q) (t : Tabs T H) (x : Ex F H) (ha : HA CP CM CH d h F H) (hD : H D = none) (e : vs = ansV a) : Q (.ref D) (upd H D (.lst vs)) :=
  q.fin (fun _ _ e _ => e) (fun _ z => z) t x ha hD e
/-- an object of another kind is changed: the tables stand -/
theorem tabs_ins {T : List (Addr × Str)} {a C dx : Addr} {fs : List (Str × V)} {o : HO} (t : Tabs T H) (h : H a = some (.ins C dx fs)) : Tabs T (upd H a o) := fun p hp => by
  obtain ⟨ps, h1, h2, h3⟩ := t p hp
  refine ⟨ps, by rw [upd_ne (ne_of h1 h (by intro z; cases z))]; exact h1, h2, fun pos cv hc => ?_⟩
  obtain ⟨c, e1, e2⟩ := h3 pos cv hc
  exact ⟨c, e1, by rw [upd_ne (ne_of e2 h (by intro z; cases z))]; exact e2⟩
/-- two objects are changed, an instance and a list -/
theorem tabs_two {T : List (Addr × Str)} {a l C dx : Addr} {fs : List (Str × V)} {xs : List V} (t : Tabs T H) (h : H a = some (.ins C dx fs)) (hl : H l = some (.lst xs)) (k : ∀ b o, H b = some o → b ≠ a → b ≠ l → H' b = some o) : Tabs T H' := fun p hp => by
  obtain ⟨ps, h1, h2, h3⟩ := t p hp
  refine ⟨ps, k _ _ h1 (ne_of h1 h (by intro z; cases z)) (ne_of h1 hl (by intro z; cases z)), h2, fun pos cv hc => ?_⟩
  obtain ⟨c, e1, e2⟩ := h3 pos cv hc
  exact ⟨c, e1, k _ _ e2 (ne_of e2 h (by intro z; cases z)) (ne_of e2 hl (by intro z; cases z))⟩
end
/-! ### what the specification says of changes and questions -/
theorem act_qst {i m : Nat} {c : List Nat → Call} (h : qsts[i]? = some (m, c)) (d : Desk) (xs : List Nat) : act d (c xs) = (d, tells d.now (c xs)) := by
  have hi : i < 17 := lt_of_getElem? h
  have : i = 0 ∨ i = 1 ∨ i = 2 ∨ i = 3 ∨ i = 4 ∨ i = 5 ∨ i = 6 ∨ i = 7 ∨ i = 8 ∨ i = 9 ∨ i = 10 ∨ i = 11 ∨ i = 12 ∨ i = 13 ∨ i = 14 ∨ i = 15 ∨ i = 16 := by omega
  rcases this with rfl | rfl | rfl | rfl | rfl | rfl | rfl | rfl | rfl | rfl | rfl | rfl | rfl | rfl | rfl | rfl | rfl <;> (cases h; rfl)
/-- a change is refused with a number below 0, or made -/
def Chg (d : Desk) (c : Call) : Prop := ((tells d.now c).value < 0 ∧ act d c = (d, tells d.now c)) ∨ (0 ≤ (tells d.now c).value ∧ act d c = (d.become (turns d.now c), tells d.now c))
theorem chg_no {d : Desk} {c : Call} {v : Int} (hv : v < 0) (e : act d c = (d, only v)) (e0 : act ⟨d.now, [], []⟩ c = (⟨d.now, [], []⟩, only v)) : Chg d c := by
  refine .inl ?_
  unfold tells
  rw [e, e0]
  exact ⟨hv, rfl⟩
theorem chg_do {d : Desk} {c : Call} {b : Book} {a : Ans} (e : act d c = (d.become b, a)) (e0 : act ⟨d.now, [], []⟩ c = ((⟨d.now, [], []⟩ : Desk).become b, a)) (hv : 0 ≤ a.value) : Chg d c := by
  refine .inr ?_
  unfold tells turns
  rw [e, e0]
  exact ⟨hv, rfl⟩
theorem act_chg {i m : Nat} {c : List Nat → Call} (h : chgs[i]? = some (m, c)) (d : Desk) (xs : List Nat) : Chg d (c xs) := by
  have hi : i < 7 := lt_of_getElem? h
  have : i = 0 ∨ i = 1 ∨ i = 2 ∨ i = 3 ∨ i = 4 ∨ i = 5 ∨ i = 6 := by omega
  rcases this with rfl | rfl | rfl | rfl | rfl | rfl | rfl
  · cases h
    show Chg d (.born (xs.getD 0 0))
    generalize xs.getD 0 0 = p
    by_cases h1 : d.now.n < p
    · exact chg_no (v := -2) (by decide) (if_pos h1) (if_pos h1)
    · by_cases h2 : 0 < p ∧ ((d.now.at_ (p - 1)).alive = false ∨ d.now.year ≤ (d.now.at_ (p - 1)).born)
      · exact chg_no (v := -16) (by decide) ((if_neg h1).trans (if_pos h2)) ((if_neg h1).trans (if_pos h2))
      · by_cases h3 : PEOPLE ≤ d.now.n
        · exact chg_no (v := -28) (by decide) ((if_neg h1).trans ((if_neg h2).trans (if_pos h3))) ((if_neg h1).trans ((if_neg h2).trans (if_pos h3)))
        · exact chg_do ((if_neg h1).trans ((if_neg h2).trans (if_neg h3))) ((if_neg h1).trans ((if_neg h2).trans (if_neg h3))) (Int.natCast_nonneg _)
  · cases h
    show Chg d (.dies (xs.getD 0 0))
    generalize xs.getD 0 0 = p
    by_cases h1 : d.now.no p = true
    · exact chg_no (v := -2) (by decide) (if_pos h1) (if_pos h1)
    · by_cases h2 : (d.now.at_ p).alive = false
      · exact chg_no (v := -17) (by decide) ((if_neg h1).trans (if_pos h2)) ((if_neg h1).trans (if_pos h2))
      · exact chg_do ((if_neg h1).trans (if_neg h2)) ((if_neg h1).trans (if_neg h2)) (Int.natCast_nonneg _)
  · cases h
    show Chg d (.join (xs.getD 0 0))
    generalize xs.getD 0 0 = p
    by_cases h1 : d.now.no p = true
    · exact chg_no (v := -2) (by decide) (if_pos h1) (if_pos h1)
    · by_cases h2 : d.now.why p < 0
      · exact chg_no h2 ((if_neg h1).trans (if_pos h2)) ((if_neg h1).trans (if_pos h2))
      · exact chg_do ((if_neg h1).trans (if_neg h2)) ((if_neg h1).trans (if_neg h2)) (Int.natCast_nonneg _)
  · cases h
    by_cases h1 : (d.now.all.filter fun i => (d.now.at_ i).set == none && ((d.now.all.foldl (fun b i => if b.may i = true then b.join i else b) d.now).at_ i).set != none) = []
    · exact chg_no (v := -6) (by decide) (if_pos h1) (if_pos h1)
    · exact chg_do (if_neg h1) (if_neg h1) (Int.natCast_nonneg _)
  · cases h
    show Chg d (.pass (xs.getD 0 0))
    generalize xs.getD 0 0 = p
    by_cases h1 : p = 0 ∨ LAST < d.now.year + p
    · exact chg_no (v := -22) (by decide) (if_pos h1) (if_pos h1)
    · exact chg_do (if_neg h1) (if_neg h1) (Int.natCast_nonneg _)
  · cases h
    show Chg d (.behind (xs.getD 0 0))
    generalize xs.getD 0 0 = p
    by_cases h1 : p = 0 ∨ 12 < p
    · exact chg_no (v := -22) (by decide) (if_pos h1) (if_pos h1)
    · by_cases h2 : p = d.now.behind
      · exact chg_no (v := -17) (by decide) ((if_neg h1).trans (if_pos h2)) ((if_neg h1).trans (if_pos h2))
      · exact chg_do ((if_neg h1).trans (if_neg h2)) ((if_neg h1).trans (if_neg h2)) (Int.natCast_nonneg _)
  · cases h
    show Chg d (.office (xs.getD 0 0))
    generalize xs.getD 0 0 = p
    by_cases h1 : d.now.grades ≤ p
    · exact chg_no (v := -22) (by decide) (if_pos h1) (if_pos h1)
    · by_cases h2 : p = d.now.rules
      · exact chg_no (v := -17) (by decide) ((if_neg h1).trans (if_pos h2)) ((if_neg h1).trans (if_pos h2))
      · exact chg_do ((if_neg h1).trans (if_neg h2)) ((if_neg h1).trans (if_neg h2)) (Int.natCast_nonneg _)
end AG
namespace AG
open PySem PySem.Spec PyProof.Rows L2 LamX Km499
section
variable {P : Program} {w : World} {K : PySem.W.Frag} {mg : Str → Option Value} {base : Heap} {CP CM CH : Addr} {Tb : List (Addr × Str)}
/-- History(people) -/
def spHistInit (CH : Addr) : Sp := fun vs H Q _ => ∃ x dx p, vs = [.ref x, .ref p] ∧ H x = some (.ins CH dx []) ∧
  ∀ H' a c, H a = none → H c = none → a ≠ c → (∀ b o, H b = some o → b ≠ x → H' b = some o) → H' x = some (.ins CH dx (hF p a c)) → H' a = some (.lst []) → H' c = some (.lst []) → Q .non H'
theorem scHistInit : FnScope ["self", "people"] ["self", "people"] (defScope sHistInit) := ⟨rfl, rfl, rfl, by decide +kernel, rfl, by decide +kernel, by decide +kernel⟩
theorem ok_histInit {f : Addr} {fd : FuncData} (F : Fun K "__init__" "History.__init__" sHistInit f fd) (T : TxH K mg CH) : FnOk P w K mg base CX0 1 f fd ["self", "people"] (spHistInit CH) := by
  refine F.ok scHistInit (fun vs H Q E h => ?_) (fun cdv A outer s H vs Q E hr h => ?_)
  · obtain ⟨x, dx, p, rfl, _⟩ := h
    rfl
  · obtain ⟨x, dx, p, rfl, hx, q⟩ := h
    refine ⟨_, pss_cons (ps_fld (pv 0) (pv 1) rfl) (pss_cons (ps_fld (pv 0) (pe_lst pa_nil) rfl) (pss_one (ps_fld (pv 0) (pe_lst pa_nil) rfl))), ?_⟩
    refine ⟨_, rfl, _, rfl, x, CH, dx, [], rfl, hx, T.cl, T.na _ (by decide +kernel), (by show 0 < 1000; decide), ?_⟩
    have e1 : putF "people" (.ref p) [] = ([("people", V.ref p)] : List (Str × V)) := rfl
    rw [e1]
    refine ⟨Nat.zero_le _, fun a ha => ?_⟩
    have nax : a ≠ x := fun z => by
      rw [z, upd_same] at ha
      cases ha
    have ha0 : H a = none := by rwa [upd_ne nax] at ha
    refine ⟨_, rfl, x, CH, dx, _, rfl, (by rw [upd_ne nax.symm, upd_same]), T.cl, T.na _ (by decide +kernel), (by show 1 < 1000; decide), ?_⟩
    rw [put_newN ["people"] rfl (by decide +kernel)]
    refine ⟨Nat.zero_le _, fun c hc => ?_⟩
    have ncx : c ≠ x := fun z => by
      rw [z, upd_same] at hc
      cases hc
    rw [upd_ne ncx] at hc
    have nca : c ≠ a := fun z => by
      rw [z, upd_same] at hc
      cases hc
    rw [upd_ne nca, upd_ne ncx] at hc
    refine ⟨_, rfl, x, CH, dx, _, rfl, (by rw [upd_ne ncx.symm, upd_same]), T.cl, T.na _ (by decide +kernel), (by show 2 < 1000; decide), ?_⟩
    rw [put_newN ["people", "past"] rfl (by decide +kernel)]
    refine q _ a c ha0 hc nca.symm (fun b o e n => ?_) upd_same ?_ ?_
    · rw [upd_ne n, upd_ne (ne_of_none e hc), upd_ne n, upd_ne (ne_of_none e ha0), upd_ne n]
      exact e
    · rw [upd_ne nax, upd_ne nca.symm, upd_ne nax, upd_same]
    · rw [upd_ne ncx, upd_same]
/-- at most twenty -/
def cut20 (ys : List V) : List V := if 20 < ys.length then ys.eraseIdx 0 else ys
theorem cut20_refs (n : Addr × Book) (qs : List (Addr × Book)) (h : qs.length ≤ 20) : cut20 (refs qs ++ [.ref n.1]) = refs ((n :: qs).take 20) := by
  rw [← refs_cons]
  unfold cut20
  rw [refs_len]
  by_cases c : 20 < (n :: qs).length
  · rw [if_pos c]
    have hl : (n :: qs).length = 21 := by
      simp at c ⊢
      omega
    have e : (n :: qs).take 20 = (n :: qs).dropLast := by
      rw [List.dropLast_eq_take, hl]
    rw [e]
    unfold refs
    rw [List.eraseIdx_zero, List.map_dropLast, List.tail_reverse]
  · rw [if_neg c, List.take_of_length_le (by omega)]
def spMoveOn (CH : Addr) : Sp := fun vs H Q _ => ∃ (h dh p lp lu q : Addr) (xs : List V), vs = [.ref h, .ref q] ∧ H h = some (.ins CH dh (hF p lp lu)) ∧ H lp = some (.lst xs) ∧ xs.length ≤ 20 ∧
  ∀ H' U, H U = none → (∀ b o, H b = some o → b ≠ h → b ≠ lp → H' b = some o) → H' h = some (.ins CH dh (hF q lp U)) → H' lp = some (.lst (cut20 (xs ++ [.ref p]))) → H' U = some (.lst []) → Q .non H'
theorem scMoveOn : FnScope ["self", "changed"] ["self", "changed"] (defScope sMoveOn) := ⟨rfl, rfl, rfl, by decide +kernel, rfl, by decide +kernel, by decide +kernel⟩
theorem ok_moveOn {f : Addr} {fd : FuncData} (F : Fun K "move_on" "History.move_on" sMoveOn f fd) (TP : TxS K mg CP CM) (T : TxH K mg CH) : FnOk P w K mg base CX0 1 f fd ["self", "changed"] (spMoveOn CH) := by
  refine F.ok scMoveOn (fun vs H Q E h => ?_) (fun cdv A outer s H vs Q E hr h => ?_)
  · obtain ⟨h, dh, p, lp, lu, q, xs, rfl, _⟩ := h
    rfl
  · obtain ⟨h, dh, p, lp, lu, c, xs, rfl, oh, ol, hle, q⟩ := h
    obtain ⟨t20, c20⟩ := TP.cs ("MOST_TAKEN_BACK", 20) (by decide +kernel)
    refine ⟨_, pss_cons (ps_expr (pe_bm PySem.F.plainAttrs_list PySem.F.slot_list_append PySem.F.type_list_append mt_append (pe_fld (pv 0) rfl) (pa_cons (pe_fld (pv 0) rfl) pa_nil)))
      (pss_cons (ps_if (pt_cmpR op_gt (pe_callB call_len_seq (by rfl) TP.len PySem.boot_len (pa_cons (pe_fld (pv 0) rfl) pa_nil)) (pe_glob (v := .int 20) (by rfl) c20 ⟨_, rfl⟩) (nomark _))
        (pss_one (ps_expr (pe_bm PySem.F.plainAttrs_list PySem.F.slot_list_pop PySem.F.type_list_pop mt_popAt (pe_fld (pv 0) rfl) (pa_cons pe_int pa_nil)))) pss_nil)
      (pss_cons (ps_fld (pv 0) (pe_lst pa_nil) rfl)
      (pss_one (ps_fld (pv 0) (pv 1) rfl)))), ?_⟩
    have nlh : h ≠ lp := ne_of oh ol (by intro z; cases z)
    refine ⟨_, rfl, fH T oh (by decide +kernel) (hF_past p lp lu) ⟨.inl ⟨rfl, _, SqL.of ol⟩, ?_⟩⟩
    refine ⟨_, rfl, fH T oh (by decide +kernel) (hF_people p lp lu) ⟨lp, xs, _, rfl, rfl, ol, Nat.lt_of_le_of_lt hle (by decide), ?_⟩⟩
    have oh1 : upd H lp (.lst (xs ++ [.ref p])) h = some (.ins CH dh (hF p lp lu)) := by
      rw [upd_ne nlh]
      exact oh
    refine ⟨_, rfl, fH T oh1 (by decide +kernel) (hF_past p lp lu) ⟨lp, _, rfl, .inl (SqL.of upd_same), _, _, rfl, rfl, _, rfl, ?_⟩⟩
    have fin : ∀ (ys : List V), cut20 (xs ++ [.ref p]) = ys → ∀ U, upd H lp (.lst ys) U = none → Q .non (upd (upd (upd (upd H lp (.lst ys)) U (.lst [])) h (.ins CH dh (hF p lp U))) h (.ins CH dh (hF c lp U))) := by
      intro ys ey U hU
      have nUl : U ≠ lp := fun z => by
        rw [z, upd_same] at hU
        cases hU
      rw [upd_ne nUl] at hU
      have nUh : U ≠ h := fun z => by
        rw [z, oh] at hU
        cases hU
      rw [upd_upd]
      refine q _ U hU (fun b o e n1 n2 => ?_) upd_same ?_ ?_
      · rw [upd_ne n1, upd_ne (ne_of_none e hU), upd_ne n2]
        exact e
      · rw [upd_ne nlh.symm, upd_ne nUl.symm, upd_same, ey]
      · rw [upd_ne nUh, upd_same]
    have rest : ∀ (ys : List V), cut20 (xs ++ [.ref p]) = ys → ∀ {D1 : Ends}, D1.nx = (fun _ H' => Q .non H') → (tSeq (sFld K (tVar 0) (tLst tNil) "undone") (sFld K (tVar 0) (tVar 1) "people")) D1 [some (.ref h), some (.ref c)] (upd H lp (.lst ys)) := by
      intro ys ey D1 hD1
      have oh2 : upd H lp (.lst ys) h = some (.ins CH dh (hF p lp lu)) := by
        rw [upd_ne nlh]
        exact oh
      refine ⟨Nat.zero_le _, fun U hU => ?_⟩
      have nUh : h ≠ U := ne_of_none oh2 hU
      refine ⟨_, rfl, h, CH, dh, _, rfl, (by rw [upd_ne nUh]; exact oh2), T.cl, T.na _ (by decide +kernel), (by show 3 < 1000; decide), ?_⟩
      rw [hP_undone]
      refine ⟨_, rfl, _, rfl, h, CH, dh, _, rfl, upd_same, T.cl, T.na _ (by decide +kernel), (by show 3 < 1000; decide), ?_⟩
      rw [hP_people, hD1]
      exact fin ys ey U hU
    have el : (xs ++ [V.ref p]).length = xs.length + 1 := by
      rw [List.length_append]
      rfl
    by_cases h20 : 20 < (xs ++ [V.ref p]).length
    · rw [decide_eq_true (by omega : (20 : Int) < ((xs ++ [V.ref p]).length : Int))]
      obtain ⟨y, hy⟩ : ∃ y, (xs ++ [V.ref p])[0]? = some y := ⟨_, List.getElem?_eq_getElem (by omega)⟩
      have hsi : seqIndex? 0 (xs ++ [V.ref p]).length = some 0 := by
        unfold seqIndex?
        have h0 : (0 : Int) < ((xs ++ [V.ref p]).length : Int) := by omega
        simp only [Int.lt_irrefl, if_false]
        rw [if_pos (by simpa using h0)]
        rfl
      refine iteT ⟨_, rfl, fH T oh1 (by decide +kernel) (hF_past p lp lu) ⟨.inl ⟨rfl, _, SqL.of upd_same⟩, lp, _, 0, 0, y, rfl, rfl, upd_same, by decide, by decide, hsi, hy, ?_⟩⟩
      rw [upd_upd]
      exact rest _ (if_pos h20) rfl
    · rw [decide_eq_false (by omega : ¬ (20 : Int) < ((xs ++ [V.ref p]).length : Int))]
      exact iteF (rest _ (if_neg h20) rfl)
end
end AG
namespace AG
open PySem PySem.Spec PyProof.Rows L2 LamX Km499
section
variable {P : Program} {w : World} {K : PySem.W.Frag} {mg : Str → Option Value} {base : Heap} {CP CM CH : Addr} {Tb : List (Addr × Str)}
/-- history.change: a change by its number -/
def spHChange (K : PySem.W.Frag) (CP CM CH : Addr) (T : List (Addr × Str)) : Sp := fun vs H Q _ => ∃ (h g : Addr) (d : Desk) (F : List Addr) (i m : Nat) (c : List Nat → Call) (xs : List Nat), vs = [.ref h, .int ((i : Int) + 1), .ref g] ∧ chgs[i]? = some (m, c) ∧ xs.length = m ∧ SqL K H g (nV xs) ∧
  HA CP CM CH d h F H ∧ Ex F H ∧ Tabs T H ∧ HPost CP CM CH T (act d (c xs)).1 (act d (c xs)).2 h F H Q
theorem scChange : FnScope ["self", "number", "given", "changed", "answer"] ["self", "number", "given"] (defScope sChange) := ⟨rfl, rfl, rfl, by decide +kernel, rfl, by decide +kernel, by decide +kernel⟩
/-- the people that was changed is now the history's -/
theorem HAt.move {d : Desk} {h dh lp lu U p' l' : Addr} {F Z as2 : List Addr} {H H2 H3 : Hp} {n : Addr × Book} {qs us : List (Addr × Book)} {b' : Book} (A : HAt CP CM CH d h F H Z dh lp lu n qs us) (hx : Ex F H) (s2 : Same H H2)
    (np : H p' = none) (nl : H l' = none) (nas : ∀ a ∈ as2, H a = none) (hP2 : PAt CP CM H2 p' l' as2 b') (hU : H2 U = none)
    (k3 : ∀ b o, H2 b = some o → b ≠ h → b ≠ lp → H3 b = some o) (oh3 : H3 h = some (.ins CH dh (hF p' lp U))) (ol3 : H3 lp = some (.lst (cut20 (refs qs ++ [.ref n.1])))) (ou3 : H3 U = some (.lst [])) :
    HAt CP CM CH (d.become b') h (F ++ p' :: l' :: U :: as2) H3 (Z ++ p' :: l' :: as2) dh lp U (p', b') ((n :: qs).take 20) [] := by
  have old : ∀ x ∈ F, H x ≠ none := fun x hxF e => by
    obtain ⟨o, ho, _⟩ := hx x hxF
    rw [ho] at e
    cases e
  have newZ : ∀ x, x ∈ p' :: l' :: as2 → H x = none := fun x hm => by
    rcases List.mem_cons.mp hm with rfl | hm
    · exact np
    · rcases List.mem_cons.mp hm with rfl | hm
      · exact nl
      · exact nas x hm
  have notin : ∀ x ∈ F, x ∉ Z → x ∉ Z ++ p' :: l' :: as2 := fun x hxF hz hm => by
    rcases List.mem_append.mp hm with hm | hm
    · exact hz hm
    · exact old x hxF (newZ x hm)
  have kz : ∀ x ∈ Z, ∀ o, H x = some o → (∀ ps, o ≠ .tbl ps) → H3 x = some o := fun x hx o e _ =>
    k3 x o (s2 _ _ e) (fun z => A.zh (z ▸ hx)) (fun z => A.zl (z ▸ hx))
  have ole : qs.length ≤ 20 := by
    have := A.le
    omega
  refine ⟨?_, oh3, ?_, ou3, ?_, notin lp A.fl A.zl, fun hm => ?_, notin h A.fh A.zh, List.mem_append_left _ A.fh, List.mem_append_left _ A.fl, ?_, fun z hz => ?_, ?_, fun q hq => ?_, (fun q hq => by cases hq), ?_⟩
  · rw [A.ed]
    unfold Desk.become PAST
    rw [List.map_take]
    rfl
  · rw [ol3, cut20_refs n qs ole]
  · exact fun z => by
      have e := s2 _ _ A.ol
      rw [z, hU] at e
      cases e
  · rcases List.mem_append.mp hm with hm | hm
    · obtain ⟨o, ho, _⟩ := hx U (A.fz U hm)
      rw [s2 _ _ ho] at hU
      cases hU
    · rcases List.mem_cons.mp hm with rfl | hm
      · obtain ⟨dx, ho⟩ := hP2.obj
        rw [ho] at hU
        cases hU
      · rcases List.mem_cons.mp hm with rfl | hm
        · rw [hP2.lst] at hU
          cases hU
        · obtain ⟨j, ej⟩ := List.mem_iff_getElem?.mp hm
          obtain ⟨dx, ho⟩ := hP2.men j U ej
          rw [ho] at hU
          cases hU
  · exact List.mem_append_right _ (.tail _ (.tail _ (.head _)))
  · rcases List.mem_append.mp hz with hz | hz
    · exact List.mem_append_left _ (A.fz z hz)
    · refine List.mem_append_right _ ?_
      rcases List.mem_cons.mp hz with rfl | hz
      · exact .head _
      · rcases List.mem_cons.mp hz with rfl | hz
        · exact .tail _ (.head _)
        · exact .tail _ (.tail _ (.tail _ hz))
  · refine ⟨l', as2, hP2.keep fun x hx' o e _ => ?_, List.mem_append_right _ (.head _), List.mem_append_right _ (.tail _ (.head _)), fun a ha => List.mem_append_right _ (.tail _ (.tail _ ha))⟩
    have hn : H x = none := newZ x (by
      rcases hx' with rfl | rfl | hx'
      · exact .head _
      · exact .tail _ (.head _)
      · exact .tail _ (.tail _ hx'))
    exact k3 x o e (fun z => old h A.fh (z ▸ hn)) (fun z => old lp A.fl (z ▸ hn))
  · rcases List.mem_cons.mp (List.mem_of_mem_take hq) with rfl | hq
    · exact A.pn.keep kz fun x hx => List.mem_append_left _ hx
    · exact (A.pq q hq).keep kz fun x hx => List.mem_append_left _ hx
  · rw [List.length_take]
    simp
    omega
theorem ok_change {f fC fM fO : Addr} {fd fdC fdM fdO : FuncData} {k : Nat} (F : Fun K "change" "History.change" sChange f fd) (T : TxH K mg CH) (AC : FnAt K mg "copied_people" sCopyPeople fC fdC ["people"]) (AM : FnAt K mg "make_change" sMakeChange fM fdM ["people", "number", "given"]) (MO : MethAt K CH "move_on" "History.move_on" sMoveOn fO fdO ["self", "changed"])
    (GC : FnOk P w K mg base CX0 (k + 1) fC fdC ["people"] (spCopyPeople CP CM)) (GM : FnOk P w K mg base CX0 (k + 1) fM fdM ["people", "number", "given"] (spMake K CP CM)) (GO : FnOk P w K mg base CX0 (k + 1) fO fdO ["self", "changed"] (spMoveOn CH)) :
    FnOk P w K mg base CX0 (k + 2) f fd ["self", "number", "given"] (spHChange K CP CM CH Tb) := by
  refine F.ok scChange (fun vs H Q E h => ?_) (fun cdv A outer s H vs Q E hr h => ?_)
  · obtain ⟨h, g, d, F, i, m, c, xs, rfl, _⟩ := h
    rfl
  · obtain ⟨h, g, d, F, i, m, c, xs, rfl, hc, hlen, hS, ha, hx, hT, q⟩ := h
    refine ⟨_, pss_cons (ps_set (i := 3) scChange.nd rfl (Or.inl rfl) (pe_call GC hr (by rfl) AC.g AC.fn.kp AC.bi .nil pass0 (pa_cons (pe_fld (pv 0) rfl) pa_nil)))
      (pss_cons (ps_set (i := 4) scChange.nd rfl (Or.inl rfl) (pe_call GM hr (by rfl) AM.g AM.fn.kp AM.bi .nil pass0 (pa_cons (pv 3) (pa_cons (pv 1) (pa_cons (pv 2) pa_nil)))))
      (pss_cons (ps_if (pt_cmpR op_ge (pe_ix ix_list (pv 4) pe_int (fun _ _ => rfl)) pe_int (nomark _)) (pss_one (ps_expr (pe_meth (pv 0) T.cl MO.mt GO hr MO.bi .nil pass0 (pa_cons (pv 3) pa_nil)))) pss_nil)
      (pss_one (ps_ret (pv 4))))), ?_⟩
    obtain ⟨Z, dh, lp, lu, n, qs, us, A⟩ := id ha
    obtain ⟨l, as, hPn, _⟩ := id A.pn
    refine ⟨_, rfl, fH T A.oh (by decide +kernel) (hF_people _ _ _) ⟨n.1, l, as, n.2, rfl, hPn, fun H1 p' l' as' s1 np nl nas hP1 => ?_⟩⟩
    refine ⟨_, rfl, _, rfl, _, rfl, i, m, c, _, _, rfl, hc, p', l', as', n.2, g, xs, rfl, hP1, s1.seq hS, hlen, fun H2 D as2 k2 hD has2 hP2 d2 => ?_⟩
    have s2 : Same H H2 := fun x o e => k2 x o (s1 _ _ e) fun hm => by
      rcases List.mem_cons.mp hm with rfl | hm
      · rw [np] at e
        cases e
      · rcases List.mem_cons.mp hm with rfl | hm
        · rw [nl] at e
          cases e
        · rw [nas x hm] at e
          cases e
    have nas2 : ∀ a ∈ as2, H a = none := fun a ha => (has2 a ha).elim (nas a) fun z => s1.free z
    have hD0 : H D = none := s1.free hD
    have hDF : D ∉ F := fun z => by
      obtain ⟨o, ho, _⟩ := hx D z
      rw [hD0] at ho
      cases ho
    have hc2 := act_chg hc d xs
    have en : d.now = n.2 := by rw [A.ed]
    unfold Chg at hc2
    rw [en] at hc2
    refine ⟨_, rfl, D, _, _, .int (tells n.2 (c xs)).value, rfl, rfl, SqL.of d2, atI_nat (xs := ansV (tells n.2 (c xs))) (j := 0) rfl, _, _, rfl, rfl, _, rfl, ?_⟩
    have t2 := hT.ext s2
    rcases hc2 with ⟨hv, e⟩ | ⟨hv, e⟩
    · rw [e] at q
      rw [decide_eq_false (by omega : ¬ (0 : Int) ≤ (tells n.2 (c xs)).value)]
      refine iteF ⟨_, rfl, q H2 D F (fun x o e _ _ => s2 _ _ e) t2 (NewN.of hD0) hDF (fun _ z => z) (fun b hb => ⟨?_, .inl hb⟩) (ha.stay fun b _ o e _ => s2 _ _ e) d2⟩
      obtain ⟨o, ho, no⟩ := hx b hb
      exact ⟨o, s2 _ _ ho, no⟩
    · rw [e] at q
      rw [decide_eq_true hv]
      have oh2 := s2 _ _ A.oh
      have ol2 := s2 _ _ A.ol
      refine iteT ⟨_, rfl, cH oh2 (by decide +kernel) ⟨_, rfl, h, dh, n.1, lp, lu, p', refs qs, rfl, oh2, ol2, ?_, fun H3 U hU k3 oh3 ol3 ou3 => ?_⟩⟩
      · rw [refs_len]
        have := A.le
        omega
      have A3 := A.move hx s2 np nl nas2 hP2 hU k3 oh3 ol3 ou3
      have nDh : D ≠ h := fun z => hDF (z ▸ A.fh)
      have nDl : D ≠ lp := fun z => hDF (z ▸ A.fl)
      have newF : ∀ x, x ∈ p' :: l' :: U :: as2 → H x = none := fun x hm => by
        rcases List.mem_cons.mp hm with rfl | hm
        · exact np
        · rcases List.mem_cons.mp hm with rfl | hm
          · exact nl
          · rcases List.mem_cons.mp hm with rfl | hm
            · exact s2.free hU
            · exact nas2 x hm
      refine ⟨_, rfl, q H3 D (F ++ p' :: l' :: U :: as2) (fun x o e _ hn => k3 x o (s2 _ _ e) (fun z => hn (z ▸ A.fh)) (fun z => hn (z ▸ A.fl))) (tabs_two t2 oh2 ol2 k3) (NewN.of hD0) (fun hm => ?_) (fun b hb => List.mem_append_left _ hb) (fun b hb => ?_) ⟨_, _, _, _, _, _, _, A3⟩ (k3 D _ d2 nDh nDl)⟩
      · rcases List.mem_append.mp hm with hm | hm
        · exact hDF hm
        · rcases List.mem_cons.mp hm with rfl | hm
          · obtain ⟨dx, ho⟩ := hP1.obj
            rw [ho] at hD
            cases hD
          · rcases List.mem_cons.mp hm with rfl | hm
            · rw [hP1.lst] at hD
              cases hD
            · rcases List.mem_cons.mp hm with rfl | hm
              · rw [hU] at d2
                cases d2
              · obtain ⟨j, ej⟩ := List.mem_iff_getElem?.mp hm
                obtain ⟨dx, ho⟩ := hP2.men j D ej
                rw [d2] at ho
                cases ho
      · rcases List.mem_append.mp hb with hb | hb
        · refine ⟨?_, .inl hb⟩
          by_cases e1 : b = h
          · exact ⟨_, by rw [e1]; exact oh3, fun _ z => by cases z⟩
          · by_cases e2 : b = lp
            · exact ⟨_, by rw [e2]; exact ol3, fun _ z => by cases z⟩
            · obtain ⟨o, ho, no⟩ := hx b hb
              exact ⟨o, k3 b o (s2 _ _ ho) e1 e2, no⟩
        · refine ⟨?_, .inr (NewN.of (newF b hb))⟩
          have nbh : b ≠ h := fun z => by
            have e := newF b hb
            rw [z, A.oh] at e
            cases e
          have nbl : b ≠ lp := fun z => by
            have e := newF b hb
            rw [z, A.ol] at e
            cases e
          rcases List.mem_cons.mp hb with rfl | hb
          · obtain ⟨dx, ho⟩ := hP2.obj
            exact ⟨_, k3 _ _ ho nbh nbl, fun _ z => by cases z⟩
          · rcases List.mem_cons.mp hb with rfl | hb
            · exact ⟨_, k3 _ _ hP2.lst nbh nbl, fun _ z => by cases z⟩
            · rcases List.mem_cons.mp hb with rfl | hb
              · exact ⟨_, ou3, fun _ z => by cases z⟩
              · obtain ⟨j, ej⟩ := List.mem_iff_getElem?.mp hb
                obtain ⟨dx, ho⟩ := hP2.men j b ej
                exact ⟨_, k3 _ _ ho nbh nbl, fun _ z => by cases z⟩
end
end AG
namespace AG
open PySem PySem.Spec PyProof.Rows L2 LamX Km499
section
variable {P : Program} {w : World} {K : PySem.W.Frag} {mg : Str → Option Value} {base : Heap} {CP CM CH : Addr} {Tb : List (Addr × Str)}
/-- a call on the history itself -/
def spHist (CP CM CH : Addr) (T : List (Addr × Str)) (c : Call) : Sp := fun vs H Q _ => ∃ (h : Addr) (d : Desk) (F : List Addr), vs = [.ref h] ∧ HA CP CM CH d h F H ∧ Ex F H ∧ Tabs T H ∧ HPost CP CM CH T (act d c).1 (act d c).2 h F H Q
theorem ne_in {x y : Addr} {Z : List Addr} (hx : x ∈ Z) (n : y ∉ Z) : x ≠ y := fun z => n (z ▸ hx)
theorem ne_out {x y : Addr} {Z : List Addr} (hx : x ∉ Z) (n : y ∈ Z) : x ≠ y := fun z => hx (z ▸ n)
/-- three of F's objects are changed -/
theorem ex_upd {F : List Addr} {H : Hp} {a : Addr} {o : HO} (x : Ex F H) (n : ∀ ps, o ≠ .tbl ps) : Ex F (upd H a o) := fun b hb => by
  by_cases e : b = a
  · exact ⟨o, by rw [e, upd_same], n⟩
  · obtain ⟨o', h1, h2⟩ := x b hb
    exact ⟨o', by rw [upd_ne e]; exact h1, h2⟩
theorem refs_last (q : Addr × Book) (qs : List (Addr × Book)) : (refs (q :: qs))[(refs (q :: qs)).length - 1]? = some (.ref q.1) := by
  rw [refs_cons, List.length_append]
  simp
theorem refs_drop (q : Addr × Book) (qs : List (Addr × Book)) : (refs (q :: qs)).dropLast = refs qs := by
  rw [refs_cons, List.dropLast_concat]
theorem scBack : FnScope ["history"] ["history"] (defScope sBack) := ⟨rfl, rfl, rfl, by decide +kernel, rfl, by decide +kernel, by decide +kernel⟩
theorem ok_back {f : Addr} {fd : FuncData} (F : Fun K "pp_back" "pp_back" sBack f fd) (TP : TxS K mg CP CM) (T : TxH K mg CH) : FnOk P w K mg base CX0 1 f fd ["history"] (spHist CP CM CH Tb .back) := by
  refine F.ok scBack (fun vs H Q E h => ?_) (fun cdv A outer s H vs Q E hr h => ?_)
  · obtain ⟨h, d, F, rfl, _⟩ := h
    rfl
  · obtain ⟨h, d, F, rfl, ha, hx, hT, q⟩ := h
    obtain ⟨t2, c2⟩ := TP.cs ("NO_SUCH_CHANGE", -2) (by decide +kernel)
    refine ⟨_, pss_cons (ps_if (pt_cmpR op_eq (pe_callB call_len_seq (by rfl) TP.len PySem.boot_len (pa_cons (pe_fld (pv 0) rfl) pa_nil)) pe_int (nomark _)) (pss_one (ps_ret (pe_lst (pa_cons (pe_glob (v := .int (-2)) (by rfl) c2 ⟨_, rfl⟩) pa_nil)))) pss_nil)
      (pss_cons (ps_expr (pe_bm PySem.F.plainAttrs_list PySem.F.slot_list_append PySem.F.type_list_append mt_append (pe_fld (pv 0) rfl) (pa_cons (pe_fld (pv 0) rfl) pa_nil)))
      (pss_cons (ps_fld (pv 0) (pe_bm0 PySem.F.plainAttrs_list PySem.F.slot_list_pop PySem.F.type_list_pop mt_pop (pe_fld (pv 0) rfl)) rfl)
      (pss_one (ps_ret (pe_lst (pa_cons (pe_callB call_len_seq (by rfl) TP.len PySem.boot_len (pa_cons (pe_fld (pv 0) rfl) pa_nil)) pa_nil)))))), ?_⟩
    obtain ⟨Z, dh, lp, lu, n, qs, us, A⟩ := id ha
    have hle := A.le
    refine ⟨_, rfl, fH T A.oh (by decide +kernel) (hF_past _ _ _) ⟨lp, _, rfl, .inl (SqL.of A.ol), rfl, _, rfl, ?_⟩⟩
    rw [refs_len]
    cases qs with
    | nil =>
      have e : act d .back = (d, only (-2)) := by
        rw [A.ed]
        rfl
      rw [e] at q
      exact iteT ⟨(by show 1 ≤ sizeLine; decide), fun D hD => q.same hT hx ha hD rfl⟩
    | cons c qs =>
      have e : act d .back = (⟨c.2, qs.map (·.2), n.2 :: us.map (·.2)⟩, only (n2i (qs.map (·.2)).length)) := by
        rw [A.ed]
        rfl
      rw [e] at q
      have e0 : decide (V.int (((c :: qs).length : Nat) : Int) = V.int 0) = false := decide_eq_false fun z => by
        have z' := V.int.inj z
        simp at z'
        omega
      rw [e0]
      have nhu : h ≠ lu := ne_of A.oh A.ou (by intro z; cases z)
      have nhl : h ≠ lp := ne_of A.oh A.ol (by intro z; cases z)
      refine iteF ⟨_, rfl, fH T A.oh (by decide +kernel) (hF_undone _ _ _) ⟨.inl ⟨rfl, _, SqL.of A.ou⟩, ?_⟩⟩
      refine ⟨_, rfl, fH T A.oh (by decide +kernel) (hF_people _ _ _) ⟨lu, _, _, rfl, rfl, A.ou, ?_, ?_⟩⟩
      · rw [refs_len]
        exact Nat.lt_of_le_of_lt (by omega : us.length ≤ 20) (by decide)
      rw [← refs_cons]
      have oh1 : upd H lu (.lst (refs (n :: us))) h = some (.ins CH dh (hF n.1 lp lu)) := by
        rw [upd_ne nhu]
        exact A.oh
      have ol1 : upd H lu (.lst (refs (n :: us))) lp = some (.lst (refs (c :: qs))) := by
        rw [upd_ne A.lpu]
        exact A.ol
      refine ⟨_, rfl, fH T oh1 (by decide +kernel) (hF_past _ _ _) ⟨.inl ⟨rfl, _, SqL.of ol1⟩, lp, _, _, rfl, rfl, ol1, refs_last c qs, ?_⟩⟩
      rw [refs_drop]
      have oh2 : upd (upd H lu (.lst (refs (n :: us)))) lp (.lst (refs qs)) h = some (.ins CH dh (hF n.1 lp lu)) := by
        rw [upd_ne nhl]
        exact oh1
      refine ⟨_, rfl, h, CH, dh, _, rfl, oh2, T.cl, T.na _ (by decide +kernel), (by show 3 < 1000; decide), ?_⟩
      rw [hP_people]
      have ol3 : upd (upd (upd H lu (.lst (refs (n :: us)))) lp (.lst (refs qs))) h (.ins CH dh (hF c.1 lp lu)) lp = some (.lst (refs qs)) := by
        rw [upd_ne nhl.symm, upd_same]
      refine ⟨_, rfl, fH T upd_same (by decide +kernel) (hF_past _ _ _) ⟨lp, _, rfl, .inl (SqL.of ol3), (by show 1 ≤ sizeLine; decide), fun D hD => ?_⟩⟩
      have kz : ∀ x ∈ Z, ∀ o, H x = some o → (∀ ps, o ≠ .tbl ps) → upd (upd (upd H lu (.lst (refs (n :: us)))) lp (.lst (refs qs))) h (.ins CH dh (hF c.1 lp lu)) x = some o := fun x hx o e _ => by
        rw [upd_ne (ne_in hx A.zh), upd_ne (ne_in hx A.zl), upd_ne (ne_in hx A.zu)]
        exact e
      refine q.fin (fun x o e hn => ?_) (fun x hn => upd_free x (upd_free x (upd_free x hn))) (tabs_ins (tabs_upd (tabs_upd hT A.ou) ol1) oh2) (ex_upd (ex_upd (ex_upd hx (fun _ z => by cases z)) (fun _ z => by cases z)) (fun _ z => by cases z))
        ⟨Z, dh, lp, lu, c, qs, n :: us, rfl, upd_same, ol3, ?_, A.lpu, A.zl, A.zu, A.zh, A.fh, A.fl, A.fu, A.fz, (A.pq c (.head _)).keep kz fun _ z => z, fun q hq => (A.pq q (.tail _ hq)).keep kz fun _ z => z, fun q hq => ?_, ?_⟩ hD ?_
      · rw [upd_ne (ne_out hn A.fh), upd_ne (ne_out hn A.fl), upd_ne (ne_out hn A.fu)]
        exact e
      · rw [upd_ne nhu.symm, upd_ne A.lpu.symm, upd_same]
      · rcases List.mem_cons.mp hq with rfl | hq
        · exact A.pn.keep kz fun _ z => z
        · exact (A.pu q hq).keep kz fun _ z => z
      · simp at hle ⊢
        omega
      · rw [refs_len, List.length_map]
        rfl
theorem scAgain : FnScope ["history"] ["history"] (defScope sAgain) := ⟨rfl, rfl, rfl, by decide +kernel, rfl, by decide +kernel, by decide +kernel⟩
theorem ok_again {f : Addr} {fd : FuncData} (F : Fun K "pp_again" "pp_again" sAgain f fd) (TP : TxS K mg CP CM) (T : TxH K mg CH) : FnOk P w K mg base CX0 1 f fd ["history"] (spHist CP CM CH Tb .again) := by
  refine F.ok scAgain (fun vs H Q E h => ?_) (fun cdv A outer s H vs Q E hr h => ?_)
  · obtain ⟨h, d, F, rfl, _⟩ := h
    rfl
  · obtain ⟨h, d, F, rfl, ha, hx, hT, q⟩ := h
    obtain ⟨t2, c2⟩ := TP.cs ("NO_SUCH_CHANGE", -2) (by decide +kernel)
    refine ⟨_, pss_cons (ps_if (pt_cmpR op_eq (pe_callB call_len_seq (by rfl) TP.len PySem.boot_len (pa_cons (pe_fld (pv 0) rfl) pa_nil)) pe_int (nomark _)) (pss_one (ps_ret (pe_lst (pa_cons (pe_glob (v := .int (-2)) (by rfl) c2 ⟨_, rfl⟩) pa_nil)))) pss_nil)
      (pss_cons (ps_expr (pe_bm PySem.F.plainAttrs_list PySem.F.slot_list_append PySem.F.type_list_append mt_append (pe_fld (pv 0) rfl) (pa_cons (pe_fld (pv 0) rfl) pa_nil)))
      (pss_cons (ps_fld (pv 0) (pe_bm0 PySem.F.plainAttrs_list PySem.F.slot_list_pop PySem.F.type_list_pop mt_pop (pe_fld (pv 0) rfl)) rfl)
      (pss_one (ps_ret (pe_lst (pa_cons (pe_callB call_len_seq (by rfl) TP.len PySem.boot_len (pa_cons (pe_fld (pv 0) rfl) pa_nil)) pa_nil)))))), ?_⟩
    obtain ⟨Z, dh, lp, lu, n, qs, us, A⟩ := id ha
    have hle := A.le
    refine ⟨_, rfl, fH T A.oh (by decide +kernel) (hF_undone _ _ _) ⟨lu, _, rfl, .inl (SqL.of A.ou), rfl, _, rfl, ?_⟩⟩
    rw [refs_len]
    cases us with
    | nil =>
      have e : act d .again = (d, only (-2)) := by
        rw [A.ed]
        rfl
      rw [e] at q
      exact iteT ⟨(by show 1 ≤ sizeLine; decide), fun D hD => q.same hT hx ha hD rfl⟩
    | cons c us =>
      have et : (n.2 :: qs.map (·.2)).take PAST = (n :: qs).map (·.2) := by
        unfold PAST
        rw [List.take_of_length_le]
        · rfl
        · simp at hle ⊢
          omega
      have e : act d .again = (⟨c.2, (n :: qs).map (·.2), us.map (·.2)⟩, only (n2i (us.map (·.2)).length)) := by
        rw [A.ed]
        show ((⟨c.2, (n.2 :: qs.map (·.2)).take PAST, us.map (·.2)⟩ : Desk), _) = _
        rw [et]
      rw [e] at q
      have e0 : decide (V.int (((c :: us).length : Nat) : Int) = V.int 0) = false := decide_eq_false fun z => by
        have z' := V.int.inj z
        simp at z'
        omega
      rw [e0]
      have nhu : h ≠ lu := ne_of A.oh A.ou (by intro z; cases z)
      have nhl : h ≠ lp := ne_of A.oh A.ol (by intro z; cases z)
      refine iteF ⟨_, rfl, fH T A.oh (by decide +kernel) (hF_past _ _ _) ⟨.inl ⟨rfl, _, SqL.of A.ol⟩, ?_⟩⟩
      refine ⟨_, rfl, fH T A.oh (by decide +kernel) (hF_people _ _ _) ⟨lp, _, _, rfl, rfl, A.ol, ?_, ?_⟩⟩
      · rw [refs_len]
        exact Nat.lt_of_le_of_lt (by omega : qs.length ≤ 20) (by decide)
      rw [← refs_cons]
      have oh1 : upd H lp (.lst (refs (n :: qs))) h = some (.ins CH dh (hF n.1 lp lu)) := by
        rw [upd_ne nhl]
        exact A.oh
      have ou1 : upd H lp (.lst (refs (n :: qs))) lu = some (.lst (refs (c :: us))) := by
        rw [upd_ne A.lpu.symm]
        exact A.ou
      refine ⟨_, rfl, fH T oh1 (by decide +kernel) (hF_undone _ _ _) ⟨.inl ⟨rfl, _, SqL.of ou1⟩, lu, _, _, rfl, rfl, ou1, refs_last c us, ?_⟩⟩
      rw [refs_drop]
      have oh2 : upd (upd H lp (.lst (refs (n :: qs)))) lu (.lst (refs us)) h = some (.ins CH dh (hF n.1 lp lu)) := by
        rw [upd_ne nhu]
        exact oh1
      refine ⟨_, rfl, h, CH, dh, _, rfl, oh2, T.cl, T.na _ (by decide +kernel), (by show 3 < 1000; decide), ?_⟩
      rw [hP_people]
      have ou3 : upd (upd (upd H lp (.lst (refs (n :: qs)))) lu (.lst (refs us))) h (.ins CH dh (hF c.1 lp lu)) lu = some (.lst (refs us)) := by
        rw [upd_ne nhu.symm, upd_same]
      refine ⟨_, rfl, fH T upd_same (by decide +kernel) (hF_undone _ _ _) ⟨lu, _, rfl, .inl (SqL.of ou3), (by show 1 ≤ sizeLine; decide), fun D hD => ?_⟩⟩
      have kz : ∀ x ∈ Z, ∀ o, H x = some o → (∀ ps, o ≠ .tbl ps) → upd (upd (upd H lp (.lst (refs (n :: qs)))) lu (.lst (refs us))) h (.ins CH dh (hF c.1 lp lu)) x = some o := fun x hx o e _ => by
        rw [upd_ne (ne_in hx A.zh), upd_ne (ne_in hx A.zu), upd_ne (ne_in hx A.zl)]
        exact e
      refine q.fin (fun x o e hn => ?_) (fun x hn => upd_free x (upd_free x (upd_free x hn))) (tabs_ins (tabs_upd (tabs_upd hT A.ol) ou1) oh2) (ex_upd (ex_upd (ex_upd hx (fun _ z => by cases z)) (fun _ z => by cases z)) (fun _ z => by cases z))
        ⟨Z, dh, lp, lu, c, n :: qs, us, rfl, upd_same, ?_, ou3, A.lpu, A.zl, A.zu, A.zh, A.fh, A.fl, A.fu, A.fz, (A.pu c (.head _)).keep kz fun _ z => z, fun q hq => ?_, fun q hq => (A.pu q (.tail _ hq)).keep kz fun _ z => z, ?_⟩ hD ?_
      · rw [upd_ne (ne_out hn A.fh), upd_ne (ne_out hn A.fu), upd_ne (ne_out hn A.fl)]
        exact e
      · rw [upd_ne nhl.symm, upd_ne A.lpu, upd_same]
      · rcases List.mem_cons.mp hq with rfl | hq
        · exact A.pn.keep kz fun _ z => z
        · exact (A.pq q hq).keep kz fun _ z => z
      · simp at hle ⊢
        omega
      · rw [refs_len, List.length_map]
        rfl
theorem scState : FnScope ["history", "people"] ["history"] (defScope sState) := ⟨rfl, rfl, rfl, by decide +kernel, rfl, by decide +kernel, by decide +kernel⟩
theorem ok_state {f : Addr} {fd : FuncData} (F : Fun K "pp_state" "pp_state" sState f fd) (TP : TxS K mg CP CM) (T : TxH K mg CH) : FnOk P w K mg base CX0 1 f fd ["history"] (spHist CP CM CH Tb .state) := by
  refine F.ok scState (fun vs H Q E h => ?_) (fun cdv A outer s H vs Q E hr h => ?_)
  · obtain ⟨h, d, F, rfl, _⟩ := h
    rfl
  · obtain ⟨h, d, F, rfl, ha, hx, hT, q⟩ := h
    refine ⟨_, pss_cons (ps_set (i := 1) scState.nd rfl (Or.inl rfl) (pe_fld (pv 0) rfl))
      (pss_one (ps_ret (pe_lst (pa_cons (pe_fld (pv 1) rfl) (pa_cons (pe_callB call_len_seq (by rfl) TP.len PySem.boot_len (pa_cons (pe_fld (pv 1) rfl) pa_nil)) (pa_cons (pe_fld (pv 1) rfl) (pa_cons (pe_fld (pv 1) rfl)
        (pa_cons (pe_callB call_len_seq (by rfl) TP.len PySem.boot_len (pa_cons (pe_fld (pv 0) rfl) pa_nil)) (pa_cons (pe_callB call_len_seq (by rfl) TP.len PySem.boot_len (pa_cons (pe_fld (pv 0) rfl) pa_nil)) pa_nil))))))))), ?_⟩
    obtain ⟨Z, dh, lp, lu, n, qs, us, A⟩ := id ha
    obtain ⟨l, as, hP, _⟩ := id A.pn
    refine ⟨_, rfl, fH T A.oh (by decide +kernel) (hF_people _ _ _) ?_⟩
    refine ⟨_, rfl, fP TP hP (by decide +kernel) (pF_year _ l) ?_⟩
    refine ⟨_, rfl, fP TP hP (by decide +kernel) (pF_men _ l) ⟨l, _, rfl, .inl (SqL.of hP.lst), ?_⟩⟩
    refine ⟨_, rfl, fP TP hP (by decide +kernel) (pF_behind _ l) ⟨_, rfl, fP TP hP (by decide +kernel) (pF_office _ l) ?_⟩⟩
    refine ⟨_, rfl, fH T A.oh (by decide +kernel) (hF_past _ _ _) ⟨lp, _, rfl, .inl (SqL.of A.ol), ?_⟩⟩
    refine ⟨_, rfl, fH T A.oh (by decide +kernel) (hF_undone _ _ _) ⟨lu, _, rfl, .inl (SqL.of A.ou), (by show 6 ≤ sizeLine; decide), fun D hD => q.same hT hx ha hD ?_⟩⟩
    rw [A.ed, refs_len, refs_len, List.length_map, hP.len]
    simp [act, ansV, nV, n2i]
/-- the calls on the history by number -/
def hsts : List Call := [.back, .again, .state]
def spAnsHist (CP CM CH : Addr) (T : List (Addr × Str)) : Sp := fun vs H Q E => ∃ (i : Nat) (c : Call) (h : V), vs = [h, .int ((i : Int) + 25)] ∧ hsts[i]? = some c ∧ spHist CP CM CH T c [h] H Q E
theorem scAnsHist : FnScope ["history", "number"] ["history", "number"] (defScope sAnsHist) := ⟨rfl, rfl, rfl, by decide +kernel, rfl, by decide +kernel, by decide +kernel⟩
theorem ok_ansHist {f d : Addr} {fd : FuncData} {es : List DictEntry} {n : Nat} {ks : List (Int × Addr)} {k : Nat} (F : Fun K "answer_history_call" "answer_history_call" sAnsHist f fd) (D : TabD K mg "HISTORY_CALLS" d es n ks nH)
    (A0 : ∀ (i : Nat) (c : Call) (k' : Int) (a : Addr), hsts[i]? = some c → ks[i]? = some (k', a) → Held P w K mg base k a (spHist CP CM CH Tb c)) : FnOk P w K mg base CX0 (k + 1) f fd ["history", "number"] (spAnsHist CP CM CH Tb) := by
  refine F.ok scAnsHist (fun vs H Q E h => ?_) (fun cdv A outer s H vs Q E hr h => ?_)
  · obtain ⟨i, c, h, rfl, _⟩ := h
    rfl
  · obtain ⟨i, c, h, rfl, hc, q⟩ := h
    refine ⟨_, pss_one (ps_ret (pe_callE (k := k) (S := fun a sp => ∃ (i : Nat) (c : Call) (k' : Int), hsts[i]? = some c ∧ ks[i]? = some (k', a) ∧ sp = spHist CP CM CH Tb c)
      (fun a sp ⟨i, c, k', h1, h2, e⟩ => by rw [e]; exact A0 i c k' a h1 h2) hr (pe_ix (ix_I D.dict) (pe_glob (v := .ref d) (by rfl) D.g rfl) (pv 1) (fun _ _ => rfl)) (pa_cons (pv 0) pa_nil))), ?_⟩
    have hi : i < 3 := lt_of_getElem? hc
    have hN : nH[i]? = some ((i : Int) + 25) := by
      have : i = 0 ∨ i = 1 ∨ i = 2 := by omega
      rcases this with rfl | rfl | rfl <;> rfl
    obtain ⟨a, ha⟩ := key_at D.nm hN
    have nd : (ks.map (·.1)).Nodup := by
      rw [D.nm]
      decide
    have hg : D.dict.get ((i : Int) + 25) = some (.ref a) := by
      rw [D.get, find_nodup nd ha]
      rfl
    exact ⟨_, rfl, _, .ref a, .ref a, rfl, rfl, hg, rfl, a, _, rfl, ⟨i, c, _, hc, ha, rfl⟩, _, rfl, q⟩
end
end AG
namespace AG
open PySem PySem.Spec PyProof.Rows L2 LamX Km499
open Km499Neutral (S step asked1 may callOf natural told)
/-! ### the calls that may come, by number -/
theorem nat_of {b : Int} (h : natural b 32 = true) : ((b.toNat : Nat) : Int) = b := by
  unfold Km499Neutral.natural at h
  rw [Bool.and_eq_true] at h
  exact Int.toNat_of_nonneg (of_decide_eq_true h.1)
def iZ (ns : List Nat) : List Int := ns.map fun (n : Nat) => (n : Int)
theorem zV_iZ (ns : List Nat) : zV (iZ ns) = nV ns := by
  unfold zV iZ nV
  rw [List.map_map]
  rfl
def Asked (p : Int) (xs : List Int) (ns : List Nat) : Prop := xs = iZ ns ∧
  ((p = 0 ∧ ∃ t g n l h, ns = [t, g, n, l, h] ∧ callOf [p :: xs] = some (.start t g n l h)) ∨
   (∃ (i m : Nat) (c : List Nat → Call), chgs[i]? = some (m, c) ∧ p = (i : Int) + 1 ∧ ns.length = m ∧ callOf [p :: xs] = some (c ns)) ∨
   (∃ (i m : Nat) (c : List Nat → Call), qsts[i]? = some (m, c) ∧ p = (i : Int) + 8 ∧ ns.length = m ∧ callOf [p :: xs] = some (c ns)) ∨
   (∃ (i : Nat) (c : Call), hsts[i]? = some c ∧ p = (i : Int) + 25 ∧ ns = [] ∧ callOf [p :: xs] = some c))
theorem asked_cases {p : Int} {xs : List Int} (h : asked1 [p :: xs] = true) : ∃ ns, Asked p xs ns := by
  have one : ∀ {b : Int}, natural b 32 = true → [b] = iZ [b.toNat] := fun {b} hb => by
    unfold iZ
    rw [List.map_cons, nat_of hb]
    rfl
  unfold Km499Neutral.asked1 at h
  split at h
  · rename_i heq
    cases heq
    rename_i b0 b1 b2 b3 b4
    simp only [Bool.and_eq_true] at h
    obtain ⟨⟨⟨⟨h0, h1⟩, h2⟩, h3⟩, h4⟩ := h
    refine ⟨[b0.toNat, b1.toNat, b2.toNat, b3.toNat, b4.toNat], ?_, .inl ⟨rfl, _, _, _, _, _, rfl, rfl⟩⟩
    show _ = [((b0.toNat : Nat) : Int), ((b1.toNat : Nat) : Int), ((b2.toNat : Nat) : Int), ((b3.toNat : Nat) : Int), ((b4.toNat : Nat) : Int)]
    rw [nat_of h0, nat_of h1, nat_of h2, nat_of h3, nat_of h4]
  · rename_i heq
    cases heq
    rename_i b0
    exact ⟨[b0.toNat], one h, .inr (.inl ⟨0, 1, _, rfl, rfl, rfl, rfl⟩)⟩
  · rename_i heq
    cases heq
    rename_i b0
    exact ⟨[b0.toNat], one h, .inr (.inl ⟨1, 1, _, rfl, rfl, rfl, rfl⟩)⟩
  · rename_i heq
    cases heq
    rename_i b0
    exact ⟨[b0.toNat], one h, .inr (.inl ⟨2, 1, _, rfl, rfl, rfl, rfl⟩)⟩
  · rename_i heq
    cases heq
    exact ⟨[], rfl, .inr (.inl ⟨3, 0, _, rfl, rfl, rfl, rfl⟩)⟩
  · rename_i heq
    cases heq
    rename_i b0
    exact ⟨[b0.toNat], one h, .inr (.inl ⟨4, 1, _, rfl, rfl, rfl, rfl⟩)⟩
  · rename_i heq
    cases heq
    rename_i b0
    exact ⟨[b0.toNat], one h, .inr (.inl ⟨5, 1, _, rfl, rfl, rfl, rfl⟩)⟩
  · rename_i heq
    cases heq
    rename_i b0
    exact ⟨[b0.toNat], one h, .inr (.inl ⟨6, 1, _, rfl, rfl, rfl, rfl⟩)⟩
  · rename_i heq
    cases heq
    rename_i b0
    exact ⟨[b0.toNat], one h, .inr (.inr (.inl ⟨0, 1, _, rfl, rfl, rfl, rfl⟩))⟩
  · rename_i heq
    cases heq
    rename_i b0
    exact ⟨[b0.toNat], one h, .inr (.inr (.inl ⟨1, 1, _, rfl, rfl, rfl, rfl⟩))⟩
  · rename_i heq
    cases heq
    rename_i b0
    exact ⟨[b0.toNat], one h, .inr (.inr (.inl ⟨2, 1, _, rfl, rfl, rfl, rfl⟩))⟩
  · rename_i heq
    cases heq
    exact ⟨[], rfl, .inr (.inr (.inl ⟨3, 0, _, rfl, rfl, rfl, rfl⟩))⟩
  · rename_i heq
    cases heq
    exact ⟨[], rfl, .inr (.inr (.inl ⟨4, 0, _, rfl, rfl, rfl, rfl⟩))⟩
  · rename_i heq
    cases heq
    exact ⟨[], rfl, .inr (.inr (.inl ⟨5, 0, _, rfl, rfl, rfl, rfl⟩))⟩
  · rename_i heq
    cases heq
    exact ⟨[], rfl, .inr (.inr (.inl ⟨6, 0, _, rfl, rfl, rfl, rfl⟩))⟩
  · rename_i heq
    cases heq
    rename_i b0
    exact ⟨[b0.toNat], one h, .inr (.inr (.inl ⟨7, 1, _, rfl, rfl, rfl, rfl⟩))⟩
  · rename_i heq
    cases heq
    rename_i b0
    exact ⟨[b0.toNat], one h, .inr (.inr (.inl ⟨8, 1, _, rfl, rfl, rfl, rfl⟩))⟩
  · rename_i heq
    cases heq
    rename_i b0 b1
    simp only [Bool.and_eq_true] at h
    refine ⟨[b0.toNat, b1.toNat], ?_, .inr (.inr (.inl ⟨9, 2, _, rfl, rfl, rfl, rfl⟩))⟩
    show _ = [((b0.toNat : Nat) : Int), ((b1.toNat : Nat) : Int)]
    rw [nat_of h.1, nat_of h.2]
  · rename_i heq
    cases heq
    exact ⟨[], rfl, .inr (.inr (.inl ⟨10, 0, _, rfl, rfl, rfl, rfl⟩))⟩
  · rename_i heq
    cases heq
    rename_i b0
    exact ⟨[b0.toNat], one h, .inr (.inr (.inl ⟨11, 1, _, rfl, rfl, rfl, rfl⟩))⟩
  · rename_i heq
    cases heq
    rename_i b0
    exact ⟨[b0.toNat], one h, .inr (.inr (.inl ⟨12, 1, _, rfl, rfl, rfl, rfl⟩))⟩
  · rename_i heq
    cases heq
    exact ⟨[], rfl, .inr (.inr (.inl ⟨13, 0, _, rfl, rfl, rfl, rfl⟩))⟩
  · rename_i heq
    cases heq
    exact ⟨[], rfl, .inr (.inr (.inl ⟨14, 0, _, rfl, rfl, rfl, rfl⟩))⟩
  · rename_i heq
    cases heq
    rename_i b0
    exact ⟨[b0.toNat], one h, .inr (.inr (.inl ⟨15, 1, _, rfl, rfl, rfl, rfl⟩))⟩
  · rename_i heq
    cases heq
    rename_i b0
    exact ⟨[b0.toNat], one h, .inr (.inr (.inl ⟨16, 1, _, rfl, rfl, rfl, rfl⟩))⟩
  · rename_i heq
    cases heq
    exact ⟨[], rfl, .inr (.inr (.inr ⟨0, _, rfl, rfl, rfl, rfl⟩))⟩
  · rename_i heq
    cases heq
    exact ⟨[], rfl, .inr (.inr (.inr ⟨1, _, rfl, rfl, rfl, rfl⟩))⟩
  · rename_i heq
    cases heq
    exact ⟨[], rfl, .inr (.inr (.inr ⟨2, _, rfl, rfl, rfl, rfl⟩))⟩
  · cases h
theorem zV_told (a : Ans) : zV (told a) = ansV a := by
  unfold zV Km499Neutral.told Km499Neutral.nums ansV nV
  rw [List.map_cons, List.map_map]
  rfl
theorem step_some {d : Desk} {c : List (List Int)} {x : Call} (h : callOf c = some x) : step (some d) c = (some (act d x).1, told (act d x).2) := by
  unfold Km499Neutral.step
  rw [h]
theorem step_none {c : List (List Int)} {x : Call} (h : callOf c = some x) (hs : Km499Neutral.isStart x = false) : (step none c).2 = [] := by
  unfold Km499Neutral.step
  rw [h]
  dsimp only
  rw [hs]
  rfl
theorem step_start {s : S} {c : List (List Int)} {t g n l h : Nat} (hc : callOf c = some (.start t g n l h)) : step s c = if startNo t g n l h then (s, [-22]) else (some ⟨newBook t g n l h, [], []⟩, [0]) := by
  have hact : ∀ d, act d (.start t g n l h) = if startNo t g n l h then (d, only (-22)) else (⟨newBook t g n l h, [], []⟩, only 0) := fun d => rfl
  cases s with
  | some d =>
    rw [step_some hc, hact]
    by_cases hn : startNo t g n l h
    · rw [if_pos hn, if_pos hn]
      rfl
    · rw [if_neg hn, if_neg hn]
      rfl
  | none =>
    unfold Km499Neutral.step
    rw [hc]
    dsimp only
    rw [hact]
    by_cases hn : startNo t g n l h
    · rw [if_pos hn, if_pos hn]
      rfl
    · rw [if_neg hn, if_neg hn]
      rfl
theorem chg_start {i m : Nat} {c : List Nat → Call} (h : chgs[i]? = some (m, c)) (xs : List Nat) : Km499Neutral.isStart (c xs) = false ∧ nC.any (· == (i : Int) + 1) = true := by
  have hi : i < 7 := lt_of_getElem? h
  have : i = 0 ∨ i = 1 ∨ i = 2 ∨ i = 3 ∨ i = 4 ∨ i = 5 ∨ i = 6 := by omega
  rcases this with rfl | rfl | rfl | rfl | rfl | rfl | rfl <;> (cases h; exact ⟨rfl, rfl⟩)
theorem qst_start {i m : Nat} {c : List Nat → Call} (h : qsts[i]? = some (m, c)) (xs : List Nat) : Km499Neutral.isStart (c xs) = false ∧ nC.any (· == (i : Int) + 8) = false ∧ nH.any (· == (i : Int) + 8) = false := by
  have hi : i < 17 := lt_of_getElem? h
  have : i = 0 ∨ i = 1 ∨ i = 2 ∨ i = 3 ∨ i = 4 ∨ i = 5 ∨ i = 6 ∨ i = 7 ∨ i = 8 ∨ i = 9 ∨ i = 10 ∨ i = 11 ∨ i = 12 ∨ i = 13 ∨ i = 14 ∨ i = 15 ∨ i = 16 := by omega
  rcases this with rfl | rfl | rfl | rfl | rfl | rfl | rfl | rfl | rfl | rfl | rfl | rfl | rfl | rfl | rfl | rfl | rfl <;> (cases h; exact ⟨rfl, rfl, rfl⟩)
theorem hst_start {i : Nat} {c : Call} (h : hsts[i]? = some c) : Km499Neutral.isStart c = false ∧ nC.any (· == (i : Int) + 25) = false ∧ nH.any (· == (i : Int) + 25) = true := by
  have hi : i < 3 := lt_of_getElem? h
  have : i = 0 ∨ i = 1 ∨ i = 2 := by omega
  rcases this with rfl | rfl | rfl <;> (cases h; exact ⟨rfl, rfl, rfl⟩)
end AG
namespace AG
open PySem PySem.Spec PyProof.Rows L2 LamX Km499
open Km499Neutral (S step asked1 may callOf natural told)
abbrev sLineInit : Stmt := inClass (top 85) 0
abbrev sBegin : Stmt := inClass (top 85) 1
abbrev sAnswer : Stmt := inClass (top 85) 2
/-! ### the line's object -/
def lF (v : V) : List (Str × V) := [("history", v)]
theorem lF_history (v : V) : (lF v).lookup ("history" : Str) = some v := lk_at ["history"] rfl 0 rfl (by decide +kernel)
theorem lF_no {x : Str} {v : V} (d : (["history"] : List Str).all (fun g => !(x == g)) = true) : (lF v).lookup x = none := lk_none ["history"] rfl d
theorem lP_history (v u : V) : putF "history" u (lF v) = lF u := put_at ["history"] rfl 0 rfl (by decide +kernel)
structure TxL (K : PySem.W.Frag) (CL : Addr) : Prop where
  cl : Cls K CL
  na : NoAttr K CL "history"
/-- how a line lies in the heap -/
def LA (CP CM CH CL : Addr) : S → Addr → List Addr → Hp → Prop
  | none, ln, F, H => ln ∈ F ∧ ∃ dx, H ln = some (.ins CL dx (lF .non))
  | some d, ln, F, H => ln ∈ F ∧ ∃ dx h G, H ln = some (.ins CL dx (lF (.ref h))) ∧ ln ∉ G ∧ (∀ x ∈ G, x ∈ F) ∧ HA CP CM CH d h G H
section
variable {P : Program} {w : World} {K : PySem.W.Frag} {mg : Str → Option Value} {base : Heap} {CP CM CH CL : Addr} {Tb : List (Addr × Str)}
theorem LA.mem {s : S} {ln : Addr} {F : List Addr} {H : Hp} (a : LA CP CM CH CL s ln F H) : ln ∈ F := by
  cases s with
  | none => exact a.1
  | some d => exact a.1
theorem LA.obj {s : S} {ln : Addr} {F : List Addr} {H : Hp} (a : LA CP CM CH CL s ln F H) : ∃ dx v, H ln = some (.ins CL dx (lF v)) := by
  cases s with
  | none =>
    obtain ⟨_, dx, e⟩ := a
    exact ⟨dx, _, e⟩
  | some d =>
    obtain ⟨_, dx, h, G, e, _⟩ := a
    exact ⟨dx, _, e⟩
theorem line_ok : LineOk CL (LA CP CM CH CL) := by
  refine ⟨fun s ln F H H' a k => ?_, fun s ln F H a => ?_⟩
  · cases s with
    | none =>
      obtain ⟨m, dx, e⟩ := a
      exact ⟨m, dx, k ln m _ e fun _ z => by cases z⟩
    | some d =>
      obtain ⟨m, dx, h, G, e, n, sub, ha⟩ := a
      exact ⟨m, dx, h, G, k ln m _ e (fun _ z => by cases z), n, sub, ha.stay fun b hb => k b (sub b hb)⟩
  · obtain ⟨dx, v, e⟩ := LA.obj a
    exact ⟨dx, _, e, lF_no (by decide +kernel)⟩
theorem scLineInit : FnScope ["self"] ["self"] (defScope sLineInit) := ⟨rfl, rfl, rfl, by decide +kernel, rfl, by decide +kernel, by decide +kernel⟩
theorem ok_lineInit {f : Addr} {fd : FuncData} {k : Nat} (F : Fun K "__init__" "Line.__init__" sLineInit f fd) (T : TxL K CL) : FnOk P w K mg base CX0 (k + 1) f fd ["self"] (spLine CL (LA CP CM CH CL)) := by
  refine F.ok scLineInit (fun vs H Q E h => ?_) (fun cdv A outer s H vs Q E hr h => ?_)
  · obtain ⟨x, dx, rfl, _⟩ := h
    rfl
  · obtain ⟨x, dx, rfl, hx, q⟩ := h
    refine ⟨_, pss_one (ps_fld (pv 0) pe_non rfl), ?_⟩
    refine ⟨_, rfl, x, CL, dx, [], rfl, hx, T.cl, T.na, (by show 0 < 1000; decide), ?_⟩
    have e1 : putF "history" .non [] = lF .non := rfl
    rw [e1]
    refine q _ (fun b o e n => by rw [upd_ne n]; exact e) ⟨by simp, dx, upd_same⟩ ⟨_, upd_same, fun _ z => by cases z⟩
/-- behind a call on a line -/
def LPost (CP CM CH CL : Addr) (T : List (Addr × Str)) (s : S) (a : List Int) (ln : Addr) (F : List Addr) (H : Hp) (Q : VK) : Prop := ∀ H' D F', KeptT F H H' → Tabs T H' → NewN H D → D ∉ F' → (∀ b ∈ F', (∃ o, H' b = some o ∧ ∀ ps, o ≠ .tbl ps) ∧ (b ∈ F ∨ NewN H b)) → LA CP CM CH CL s ln F' H' → H' D = some (.lst (zV a)) → Q (.ref D) H'
/-- all stands as it was -/
theorem LPost.same {s : S} {a : List Int} {ln D : Addr} {F : List Addr} {H : Hp} {Q : VK} {vs : List V} (q : LPost CP CM CH CL Tb s a ln F H Q) (t : Tabs Tb H) (x : Ex F H) (la : LA CP CM CH CL s ln F H) (hD : H D = none) (e : vs = zV a) : Q (.ref D) (upd H D (.lst vs)) := by
  have sm := same_new (o := HO.lst vs) hD
  refine q _ D F (fun y o e1 _ _ => sm _ _ e1) (t.ext sm) (NewN.of hD) (fun z => ?_) (fun b hb => ⟨?_, .inl hb⟩) (line_ok.stay _ _ _ _ _ la fun b _ o e1 _ => sm _ _ e1) (by rw [upd_same, e])
  · obtain ⟨o, ho, _⟩ := x D z
    rw [hD] at ho
    cases ho
  · obtain ⟨o, ho, n⟩ := x b hb
    exact ⟨o, sm _ _ ho, n⟩
/-- a call on the line's history -/
theorem LPost.hist {d' : Desk} {a : Ans} {ln h dx : Addr} {F G : List Addr} {H : Hp} {Q : VK} (q : LPost CP CM CH CL Tb (some d') (told a) ln F H Q) (x : Ex F H) (m : ln ∈ F) (e : H ln = some (.ins CL dx (lF (.ref h)))) (n : ln ∉ G) (sub : ∀ x ∈ G, x ∈ F) : HPost CP CM CH Tb d' a h G H Q := by
  intro H' D G' k t nD nDG inc ex ha d2
  have eln : H' ln = some (.ins CL dx (lF (.ref h))) := k ln _ e (fun _ z => by cases z) n
  refine q H' D (F ++ G') (fun y o e1 nt hy => k y o e1 nt fun z => hy (sub y z)) t nD (fun hm => ?_) (fun b hb => ?_) ⟨List.mem_append_left _ m, dx, h, G', eln, fun z => ?_, fun y hy => List.mem_append_right _ hy, ha⟩ (by rw [zV_told]; exact d2)
  · rcases List.mem_append.mp hm with hm | hm
    · obtain ⟨o, ho, no⟩ := x D hm
      exact nD D o ho no rfl
    · exact nDG hm
  · rcases List.mem_append.mp hb with hb | hb
    · refine ⟨?_, .inl hb⟩
      by_cases hg : b ∈ G
      · exact (ex b (inc b hg)).1
      · obtain ⟨o, ho, no⟩ := x b hb
        exact ⟨o, k b o ho no hg, no⟩
    · refine ⟨(ex b hb).1, ?_⟩
      rcases (ex b hb).2 with h | h
      · exact .inl (sub b h)
      · exact .inr h
  · rcases (ex ln z).2 with h | h
    · exact n h
    · exact h ln _ e (fun _ z => by cases z) rfl
/-- line.begin -/
def spBegin (K : PySem.W.Frag) (CP CM CH CL : Addr) (T : List (Addr × Str)) : Sp := fun vs H Q _ => ∃ (ln gv : Addr) (s : S) (F : List Addr) (t g n l h : Nat), vs = [.ref ln, .ref gv] ∧ SqL K H gv (nV [t, g, n, l, h]) ∧ LA CP CM CH CL s ln F H ∧ Ex F H ∧ Tabs T H ∧
  (startNo t g n l h → LPost CP CM CH CL T s [-22] ln F H Q) ∧ (¬ startNo t g n l h → LPost CP CM CH CL T (some ⟨newBook t g n l h, [], []⟩) [0] ln F H Q)
theorem scBegin : FnScope ["self", "given"] ["self", "given"] (defScope sBegin) := ⟨rfl, rfl, rfl, by decide +kernel, rfl, by decide +kernel, by decide +kernel⟩
theorem ok_begin {f fC fP fH : Addr} {fd fdC fdP fdH : FuncData} (F : Fun K "begin" "Line.begin" sBegin f fd) (T : TxS K mg CP CM) (TH : TxH K mg CH) (TL : TxL K CL) (AC : FnAt K mg "can_start" sCanStart fC fdC ["term", "grades", "names", "youngest", "oldest"])
    (MP : Mk K CP fP) (FP : Fun K "__init__" "People.__init__" sPeopleInit fP fdP) (bP : Binds K fdP ["self", "term", "grades", "names", "youngest", "oldest"] [])
    (MH : Mk K CH fH) (FH : Fun K "__init__" "History.__init__" sHistInit fH fdH) (bH : Binds K fdH ["self", "people"] []) :
    FnOk P w K mg base CX0 3 f fd ["self", "given"] (spBegin K CP CM CH CL Tb) := by
  have GC : FnOk P w K mg base CX0 1 fC fdC ["term", "grades", "names", "youngest", "oldest"] spCanStart := ok_canStart AC.fn T
  have GP : FnOk P w K mg base CX0 1 fP fdP ["self", "term", "grades", "names", "youngest", "oldest"] (spPeopleInit CP CM) := ok_peopleInit FP T
  have GH : FnOk P w K mg base CX0 1 fH fdH ["self", "people"] (spHistInit CH) := ok_histInit FH TH
  refine F.ok scBegin (fun vs H Q E h => ?_) (fun cdv A outer s H vs Q E hr h => ?_)
  · obtain ⟨ln, gv, s, F, t, g, n, l, h, rfl, _⟩ := h
    rfl
  · obtain ⟨ln, gv, st, F, t, g, n, l, h, rfl, hS, la, hx, hT, qn, qy⟩ := h
    obtain ⟨t22, c22⟩ := T.cs ("OUT_OF_BOUNDS", -22) (by decide +kernel)
    refine ⟨_, pss_cons (ps_if (pt_not (pt_val (pe_call GC (hr.mono (by decide)) (by rfl) AC.g AC.fn.kp AC.bi .nil pass0 (pa_cons (pe_ix ix_list (pv 1) pe_int (fun _ _ => rfl)) (pa_cons (pe_ix ix_list (pv 1) pe_int (fun _ _ => rfl)) (pa_cons (pe_ix ix_list (pv 1) pe_int (fun _ _ => rfl)) (pa_cons (pe_ix ix_list (pv 1) pe_int (fun _ _ => rfl)) (pa_cons (pe_ix ix_list (pv 1) pe_int (fun _ _ => rfl)) pa_nil)))))))) (pss_one (ps_ret (pe_lst (pa_cons (pe_glob (v := .int (-22)) (by rfl) c22 ⟨_, rfl⟩) pa_nil)))) pss_nil)
      (pss_cons (ps_fld (pv 0) (pe_make MH GH hr (by rfl) TH.g bH .nil pass0 (pa_cons (pe_make MP GP hr (by rfl) T.gP bP .nil pass0 (pa_cons (pe_ix ix_list (pv 1) pe_int (fun _ _ => rfl)) (pa_cons (pe_ix ix_list (pv 1) pe_int (fun _ _ => rfl)) (pa_cons (pe_ix ix_list (pv 1) pe_int (fun _ _ => rfl)) (pa_cons (pe_ix ix_list (pv 1) pe_int (fun _ _ => rfl)) (pa_cons (pe_ix ix_list (pv 1) pe_int (fun _ _ => rfl)) pa_nil)))))) pa_nil)) rfl)
      (pss_one (ps_ret (pe_lst (pa_cons pe_int pa_nil))))), ?_⟩
    refine ⟨_, rfl, gv, _, _, .int t, rfl, rfl, hS, rfl, _, rfl, gv, _, _, .int g, rfl, rfl, hS, rfl, _, rfl, gv, _, _, .int n, rfl, rfl, hS, rfl, _, rfl, gv, _, _, .int l, rfl, rfl, hS, rfl, _, rfl, gv, _, _, .int h, rfl, rfl, hS, rfl, ?_⟩
    refine ⟨t, g, n, l, h, rfl, _, rfl, ?_⟩
    by_cases hn : startNo t g n l h
    · rw [decide_eq_true hn]
      exact iteT ⟨(by show 1 ≤ sizeLine; decide), fun D hD => (qn hn).same hT hx la hD rfl⟩
    · rw [decide_eq_false hn]
      have q := qy hn
      refine iteF ⟨_, rfl, gv, _, _, .int t, rfl, rfl, hS, rfl, _, rfl, gv, _, _, .int g, rfl, rfl, hS, rfl, _, rfl, gv, _, _, .int n, rfl, rfl, hS, rfl, _, rfl, gv, _, _, .int l, rfl, rfl, hS, rfl, _, rfl, gv, _, _, .int h, rfl, rfl, hS, rfl, ?_⟩
      intro x dx hx0 hdx _
      refine ⟨x, dx, t, g, n, l, h, rfl, upd_same, hn, fun H1 m hm k1 f1 hP1 => ⟨rfl, ?_⟩⟩
      have s1 : Same H H1 := fun y o e => k1 y o (by rw [upd_ne (ne_of_none e hx0), upd_ne (ne_of_none e hdx)]; exact e) (ne_of_none e hx0)
      intro y dy hy hdy _
      refine ⟨y, dy, x, rfl, upd_same, fun H2 a c ha hc nac k2 oy oa oc => ⟨rfl, ?_⟩⟩
      have s12 : Same H1 H2 := fun z o e => k2 z o (by rw [upd_ne (ne_of_none e hy), upd_ne (ne_of_none e hdy)]; exact e) (ne_of_none e hy)
      have s2 := s1.trans s12
      have ha1 : H1 a = none := upd_free a (upd_free a ha)
      have hc1 : H1 c = none := upd_free c (upd_free c hc)
      have hm0 : H m = none := upd_free m (upd_free m hm)
      obtain ⟨dl, v, eln⟩ := la.obj
      have mln := la.mem
      have eln2 := s2 _ _ eln
      refine ⟨_, rfl, ln, CL, dl, _, rfl, eln2, TL.cl, TL.na, (by show 1 < 1000; decide), ?_⟩
      rw [lP_history]
      refine ⟨(by show 1 ≤ sizeLine; decide), fun D hD => ?_⟩
      obtain ⟨H3, e3⟩ : ∃ H3, H3 = upd H2 ln (.ins CL dl (lF (.ref y))) := ⟨_, rfl⟩
      rw [← e3] at hD ⊢
      have k3 : ∀ b o, H2 b = some o → b ≠ ln → H3 b = some o := fun b o e nb => by
        rw [e3, upd_ne nb]
        exact e
      have s4 : Same H3 (upd H3 D (.lst [.int 0])) := same_new hD
      have hD2 : H2 D = none := upd_free D (by rw [← e3]; exact hD)
      obtain ⟨dp, op⟩ := id hP1.obj
      have op2 := s12 _ _ op
      have om2 := s12 _ _ hP1.lst
      have newG : ∀ b, b ∈ [y, a, c, x, m] → H b = none := fun b hb => by
        simp only [List.mem_cons, List.mem_nil_iff, or_false] at hb
        rcases hb with rfl | rfl | rfl | rfl | rfl
        · exact s1.free hy
        · exact s1.free ha1
        · exact s1.free hc1
        · exact hx0
        · exact hm0
      have exG : ∀ b, b ∈ [y, a, c, x, m] → ∃ o, H2 b = some o ∧ ∀ ps, o ≠ .tbl ps := fun b hb => by
        simp only [List.mem_cons, List.mem_nil_iff, or_false] at hb
        rcases hb with rfl | rfl | rfl | rfl | rfl
        · exact ⟨_, oy, fun _ z => by cases z⟩
        · exact ⟨_, oa, fun _ z => by cases z⟩
        · exact ⟨_, oc, fun _ z => by cases z⟩
        · exact ⟨_, op2, fun _ z => by cases z⟩
        · exact ⟨_, om2, fun _ z => by cases z⟩
      have nln : ∀ b, b ∈ [y, a, c, x, m] → b ≠ ln := fun b hb z => by
        have e := newG b hb
        rw [z, eln] at e
        cases e
      have hP3 : PAt CP CM H3 x m [] (newBook t g n l h) := (hP1.same s12).keep fun z hz o e _ => k3 z o e (nln z (by
        rcases hz with rfl | rfl | hz
        · simp
        · simp
        · cases hz))
      have nZ : ∀ b, H1 b = none → b ∉ [x, m] := fun b hb hz => by
        simp only [List.mem_cons, List.mem_nil_iff, or_false] at hz
        rcases hz with rfl | rfl
        · rw [op] at hb
          cases hb
        · rw [hP1.lst] at hb
          cases hb
      have A3 : HAt CP CM CH ⟨newBook t g n l h, [], []⟩ y [y, a, c, x, m] H3 [x, m] dy a c (x, newBook t g n l h) [] [] :=
        ⟨rfl, k3 _ _ oy (nln y (by simp)), k3 _ _ oa (nln a (by simp)), k3 _ _ oc (nln c (by simp)), nac, nZ a ha1, nZ c hc1, nZ y hy, by simp, by simp, by simp, fun z hz => by
            simp only [List.mem_cons, List.mem_nil_iff, or_false] at hz ⊢
            rcases hz with rfl | rfl
            · simp
            · simp, ⟨m, [], hP3, by simp, by simp, fun a ha => by cases ha⟩, (fun q hq => by cases hq), (fun q hq => by cases hq), by simp⟩
      have ha3 : HA CP CM CH ⟨newBook t g n l h, [], []⟩ y [y, a, c, x, m] (upd H3 D (.lst [.int 0])) := HA.stay ⟨_, _, _, _, _, _, _, A3⟩ fun b _ o e _ => s4 _ _ e
      have hD0 : H D = none := s2.free hD2
      have t3 : Tabs Tb H3 := by
        rw [e3]
        exact tabs_ins (hT.ext s2) eln2
      refine q _ D (F ++ [y, a, c, x, m]) (fun b o e _ nb => s4 _ _ (k3 b o (s2 _ _ e) (ne_out nb mln))) (t3.ext s4) (NewN.of hD0) (fun hz => ?_) (fun b hb => ?_) ⟨List.mem_append_left _ mln, dl, y, [y, a, c, x, m], s4 _ _ (by rw [e3, upd_same]), fun z => nln ln z rfl, fun b hb => List.mem_append_right _ hb, ha3⟩ (by rw [upd_same]; rfl)
      · rcases List.mem_append.mp hz with hz | hz
        · obtain ⟨o, ho, _⟩ := hx D hz
          rw [hD0] at ho
          cases ho
        · obtain ⟨o, ho, _⟩ := exG D hz
          rw [hD2] at ho
          cases ho
      · rcases List.mem_append.mp hb with hb | hb
        · refine ⟨?_, .inl hb⟩
          by_cases eb : b = ln
          · exact ⟨_, by rw [eb]; exact s4 _ _ (by rw [e3, upd_same]), fun _ z => by cases z⟩
          · obtain ⟨o, ho, no⟩ := hx b hb
            exact ⟨o, s4 _ _ (k3 b o (s2 _ _ ho) eb), no⟩
        · obtain ⟨o, ho, no⟩ := exG b hb
          exact ⟨⟨o, s4 _ _ (k3 b o ho (nln b hb)), no⟩, .inr (NewN.of (newG b hb))⟩
end
end AG
namespace AG
open PySem PySem.Spec PyProof.Rows L2 LamX Km499
open Km499Neutral (S step asked1 may callOf natural told)
section
variable {P : Program} {w : World} {K : PySem.W.Frag} {mg : Str → Option Value} {base : Heap} {CP CM CH CL : Addr} {Tb : List (Addr × Str)}
theorem scAnswer : FnScope ["self", "number", "given"] ["self", "number", "given"] (defScope sAnswer) := ⟨rfl, rfl, rfl, by decide +kernel, rfl, by decide +kernel, by decide +kernel⟩
theorem num_eq (p q : Int) : decide (V.int p = V.int q) = decide (p = q) := by
  rw [Bool.eq_iff_iff]
  simp
/-- the line has a history -/
theorem la_some {s : S} {cl : List (List Int)} {x : Call} (hc : callOf cl = some x) (hs : Km499Neutral.isStart x = false) (hne : (step s cl).2 ≠ []) : ∃ d, s = some d := by
  cases s with
  | some d => exact ⟨d, rfl⟩
  | none => exact absurd (step_none hc hs) hne
theorem ok_answer {f fB fI fC fJ fA fQ : Addr} {fd fdB fdI fdC fdJ fdA fdQ : FuncData} {k : Nat} (F : Fun K "answer" "Line.answer" sAnswer f fd) (T : TxS K mg CP CM) (TH : TxH K mg CH) (TL : TxL K CL)
    (MB : MethAt K CL "begin" "Line.begin" sBegin fB fdB ["self", "given"]) (AI : FnAt K mg "is_change" sIsChange fI fdI ["number"]) (MC : MethAt K CH "change" "History.change" sChange fC fdC ["self", "number", "given"])
    (AJ : FnAt K mg "is_history_call" sIsHist fJ fdJ ["number"]) (AA : FnAt K mg "answer_history_call" sAnsHist fA fdA ["history", "number"]) (AQ : FnAt K mg "answer_question" sAnsQ fQ fdQ ["people", "number", "given"])
    (GB : FnOk P w K mg base CX0 (k + 1) fB fdB ["self", "given"] (spBegin K CP CM CH CL Tb)) (GI : FnOk P w K mg base CX0 (k + 1) fI fdI ["number"] (spIn nC)) (GC : FnOk P w K mg base CX0 (k + 1) fC fdC ["self", "number", "given"] (spHChange K CP CM CH Tb))
    (GJ : FnOk P w K mg base CX0 (k + 1) fJ fdJ ["number"] (spIn nH)) (GA : FnOk P w K mg base CX0 (k + 1) fA fdA ["history", "number"] (spAnsHist CP CM CH Tb)) (GQ : FnOk P w K mg base CX0 (k + 1) fQ fdQ ["people", "number", "given"] (spAsk K CP CM Tb)) :
    FnOk P w K mg base CX0 (k + 2) f fd ["self", "number", "given"] (spAnswer K Tb (LA CP CM CH CL)) := by
  refine F.ok scAnswer (fun vs H Q E h => ?_) (fun cdv A outer s H vs Q E hr h => ?_)
  · obtain ⟨ln, g, F, s, p, xs, rfl, _⟩ := h
    rfl
  · obtain ⟨ln, g, F, st, p, xs, rfl, la, hT, hS, hx, ngF, hask, hne, q⟩ := h
    obtain ⟨t0, c0⟩ := T.cs ("START", 0) (by decide +kernel)
    refine ⟨_, pss_cons (ps_if (pt_cmpR op_eq (pv 1) (pe_glob (v := .int 0) (by rfl) c0 ⟨_, rfl⟩) (nomark _)) (pss_one (ps_ret (pe_meth (pv 0) TL.cl MB.mt GB hr MB.bi .nil pass0 (pa_cons (pv 2) pa_nil)))) pss_nil)
      (pss_cons (ps_if (pt_val (pe_call GI hr (by rfl) AI.g AI.fn.kp AI.bi .nil pass0 (pa_cons (pv 1) pa_nil))) (pss_one (ps_ret (pe_meth (pe_fld (pv 0) rfl) TH.cl MC.mt GC hr MC.bi .nil pass0 (pa_cons (pv 1) (pa_cons (pv 2) pa_nil))))) pss_nil)
      (pss_cons (ps_if (pt_val (pe_call GJ hr (by rfl) AJ.g AJ.fn.kp AJ.bi .nil pass0 (pa_cons (pv 1) pa_nil))) (pss_one (ps_ret (pe_call GA hr (by rfl) AA.g AA.fn.kp AA.bi .nil pass0 (pa_cons (pe_fld (pv 0) rfl) (pa_cons (pv 1) pa_nil))))) pss_nil)
      (pss_one (ps_ret (pe_call GQ hr (by rfl) AQ.g AQ.fn.kp AQ.bi .nil pass0 (pa_cons (pe_fld (pe_fld (pv 0) rfl) rfl) (pa_cons (pv 1) (pa_cons (pv 2) pa_nil)))))))), ?_⟩
    have q0 : LPost CP CM CH CL Tb (step st [p :: xs]).1 (step st [p :: xs]).2 ln F H Q := q
    refine ⟨_, rfl, rfl, _, rfl, ?_⟩
    rw [num_eq]
    obtain ⟨ns, exs, hcase⟩ := asked_cases hask
    rw [exs, zV_iZ] at hS
    rcases hcase with ⟨rfl, t, gg, n, l, h, rfl, hc⟩ | ⟨i, m, c, hi, rfl, hlen, hc⟩ | ⟨i, m, c, hi, rfl, hlen, hc⟩ | ⟨i, c, hi, rfl, rfl, hc⟩
    · rw [decide_eq_true rfl]
      obtain ⟨dl, v, eln⟩ := LA.obj la
      refine iteT ⟨_, rfl, ln, dl, _, rfl, eln, lF_no (by decide +kernel), _, rfl, ln, g, st, F, t, gg, n, l, h, rfl, hS, la, hx, hT, fun hn => ?_, fun hn => ?_⟩
      · rw [step_start hc, if_pos hn] at q0
        exact q0
      · rw [step_start hc, if_neg hn] at q0
        exact q0
    · obtain ⟨hs, hany⟩ := chg_start hi ns
      obtain ⟨d, rfl⟩ := la_some hc hs hne
      rw [step_some hc] at q0
      obtain ⟨mln, dl, h, G, eln, nG, sub, ha⟩ := id la
      obtain ⟨Z, dh, lp, lu, n, qs, us, A⟩ := id ha
      rw [decide_eq_false (by omega : ¬ ((i : Int) + 1) = 0)]
      refine iteF ⟨_, rfl, _, rfl, _, rfl, ?_⟩
      rw [hany]
      refine iteT ⟨_, rfl, ln, CL, dl, _, _, rfl, eln, TL.cl, TL.na, lF_history _, cH A.oh (by decide +kernel) ⟨_, rfl, _, rfl, h, g, d, G, i, m, c, ns, rfl, hi, hlen, hS, ha, fun b hb => hx b (sub b hb), hT, ?_⟩⟩
      exact LPost.hist q0 hx mln eln nG sub
    · obtain ⟨hs, hany, hany2⟩ := qst_start hi ns
      obtain ⟨d, rfl⟩ := la_some hc hs hne
      rw [step_some hc, act_qst hi] at q0
      obtain ⟨mln, dl, h, G, eln, nG, sub, ha⟩ := id la
      obtain ⟨Z, dh, lp, lu, n, qs, us, A⟩ := id ha
      obtain ⟨l, as, hP, _⟩ := id A.pn
      have en : d.now = n.2 := by rw [A.ed]
      rw [decide_eq_false (by omega : ¬ ((i : Int) + 8) = 0)]
      refine iteF ⟨_, rfl, _, rfl, _, rfl, ?_⟩
      rw [hany]
      refine iteF ⟨_, rfl, _, rfl, _, rfl, ?_⟩
      rw [hany2]
      refine iteF ⟨_, rfl, ln, CL, dl, _, _, rfl, eln, TL.cl, TL.na, lF_history _, fH TH A.oh (by decide +kernel) (hF_people _ _ _) ⟨_, rfl, _, rfl, i, m, c, _, _, rfl, hi, n.1, l, as, n.2, g, ns, rfl, hP, hS, hlen, hT, fun H' D e t nD d2 => ?_⟩⟩
      refine q0 H' D F (fun x o e1 nt _ => e x o e1 nt) t nD (fun z => ?_) (fun b hb => ⟨?_, .inl hb⟩) (line_ok.stay _ _ _ _ _ la fun b _ o e1 nt => e b o e1 nt) ?_
      · obtain ⟨o, ho, no⟩ := hx D z
        exact nD D o ho no rfl
      · obtain ⟨o, ho, no⟩ := hx b hb
        exact ⟨o, e b o ho no, no⟩
      · rw [zV_told, en]
        exact d2
    · obtain ⟨hs, hany, hany2⟩ := hst_start hi
      obtain ⟨d, rfl⟩ := la_some hc hs hne
      rw [step_some hc] at q0
      obtain ⟨mln, dl, h, G, eln, nG, sub, ha⟩ := id la
      rw [decide_eq_false (by omega : ¬ ((i : Int) + 25) = 0)]
      refine iteF ⟨_, rfl, _, rfl, _, rfl, ?_⟩
      rw [hany]
      refine iteF ⟨_, rfl, _, rfl, _, rfl, ?_⟩
      rw [hany2]
      refine iteT ⟨_, rfl, ln, CL, dl, _, _, rfl, eln, TL.cl, TL.na, lF_history _, _, rfl, i, c, _, rfl, hi, h, d, G, rfl, ha, fun b hb => hx b (sub b hb), hT, ?_⟩
      exact LPost.hist q0 hx mln eln nG sub
end
end AG
namespace AG
open PySem PySem.Spec PyProof.Rows L2 LamX Km499
/-! ### the end: what the top has written, and the row's def -/
/-- a def of the top as the head has it -/
structure GF (K : PySem.W.Frag) (x : Str) (st : Stmt) (f : Addr) (fd : FuncData) : Prop where
  a : PySem.W.nsIn K mainGlobals x = some (some (.ref f))
  fn : Fun K x x st f fd
/-- a method of a class -/
structure GM (K : PySem.W.Frag) (C : Addr) (m q : Str) (st : Stmt) (f : Addr) (fd : FuncData) : Prop where
  a : PySem.W.findIn K (.ref C) m = some (some (.ref f))
  i : PySem.W.isFn K (.ref f) = true
  fn : Fun K m q st f fd
/-- a class of the top -/
structure GC (K : PySem.W.Frag) (x : Str) (C : Addr) : Prop where
  a : PySem.W.nsIn K mainGlobals x = some (some (.ref C))
  pg : PySem.W.plainGet K C Str.empty = true
  hd : PySem.W.hasDictIn K C = true
  po : PySem.W.plainOver K C = true
  sa : PySem.W.findIn K (.ref C) "__setattr__" = some (some (.builtin "object.__setattr__"))
  mks : PySem.W.makesIn K C = true
  kc : PySem.W.keepIn K (.ref C) = true
theorem GC.cls {K : PySem.W.Frag} {x : Str} {C : Addr} (g : GC K x C) : Cls K C := ⟨g.pg, g.hd, g.po, g.sa⟩
/-- a dict of defs -/
structure GD (K : PySem.W.Frag) (x : Str) (d : Addr) (es : List DictEntry) (n : Nat) (ks : List (Int × Addr)) : Prop where
  a : PySem.W.nsIn K mainGlobals x = some (some (.ref d))
  at_ : K.lookup d = some ⟨.type "dict", none, .dict es.toArray n, #[]⟩
  tab : isTab es ks
  low : (d == sysModules) = false
theorem isTab.nil : isTab [] [] := trivial
theorem isTab.cons {e : DictEntry} {es : List DictEntry} {k : Int × Addr} {ks : List (Int × Addr)} (h1 : ∃ t, e.key = .int k.1 t) (h2 : (e.hash == hashInt k.1) = true) (h3 : e.val = .ref k.2) (h4 : isTab es ks) : isTab (e :: es) (k :: ks) := ⟨h1, h2, h3, h4⟩
theorem all_nil {α : Type} {p : α → Prop} : ∀ x ∈ ([] : List α), p x := fun _ h => nomatch h
theorem all_cons {α : Type} {p : α → Prop} {a : α} {l : List α} (h : p a) (t : ∀ x ∈ l, p x) : ∀ x ∈ a :: l, p x := List.forall_mem_cons.mpr ⟨h, t⟩
/-- the table of a def's code object -/
theorem tab_in {K : PySem.W.Frag} {x : Str} {st : Stmt} {f c Pt : Addr} {fd : FuncData} {occ : Value} {odc : Option Addr} {vs : Array Value} {slc : Array (Option Value)} (g : GF K x st f fd) (hc : fd.code = .ref c) (lc : K.lookup c = some ⟨occ, odc, .fields vs, slc⟩) (v11 : vs[11]? = some (.ref Pt)) : PySem.W.tabIn K x = some (c, Pt) := by
  obtain ⟨oc, od, kV, doc, pm, an, cdv, ct, osl, e, l, _⟩ := g.fn.ex
  unfold PySem.W.tabIn
  rw [g.a]
  dsimp only
  rw [l]
  dsimp only
  rw [hc]
  dsimp only
  rw [lc]
  dsimp only
  rw [v11]
theorem consts_of {K : PySem.W.Frag} {t0 t1 t2 t3 t4 t5 t6 t7 t8 t9 t10 t11 t12 t13 t14 t15 t16 t17 t18 t19 : Tok}
    (h0 : PySem.W.nsIn K mainGlobals "NO_SUCH_MAN" = some (some (.int (-2) t0)))
    (h1 : PySem.W.nsIn K mainGlobals "NO_SUCH_CHANGE" = some (some (.int (-2) t1)))
    (h2 : PySem.W.nsIn K mainGlobals "NOBODY_MAY" = some (some (.int (-6) t2)))
    (h3 : PySem.W.nsIn K mainGlobals "TOO_NEAR" = some (some (.int (-13) t3)))
    (h4 : PySem.W.nsIn K mainGlobals "DEAD_OR_NEWBORN" = some (some (.int (-16) t4)))
    (h5 : PySem.W.nsIn K mainGlobals "ALREADY_SO" = some (some (.int (-17) t5)))
    (h6 : PySem.W.nsIn K mainGlobals "OUT_OF_BOUNDS" = some (some (.int (-22) t6)))
    (h7 : PySem.W.nsIn K mainGlobals "PEOPLE_FULL" = some (some (.int (-28) t7)))
    (h8 : PySem.W.nsIn K mainGlobals "NONE_THERE" = some (some (.int (-33) t8)))
    (h9 : PySem.W.nsIn K mainGlobals "LAST_YEAR" = some (some (.int 400 t9)))
    (h10 : PySem.W.nsIn K mainGlobals "MOST_MEN" = some (some (.int 24 t10)))
    (h11 : PySem.W.nsIn K mainGlobals "MOST_BEHIND" = some (some (.int 12 t11)))
    (h12 : PySem.W.nsIn K mainGlobals "MOST_TAKEN_BACK" = some (some (.int 20 t12)))
    (h13 : PySem.W.nsIn K mainGlobals "START" = some (some (.int 0 t13)))
    (h14 : PySem.W.nsIn K mainGlobals "MOST_YEARS_A_TERM" = some (some (.int 20 t14)))
    (h15 : PySem.W.nsIn K mainGlobals "LEAST_GRADES" = some (some (.int 2 t15)))
    (h16 : PySem.W.nsIn K mainGlobals "MOST_GRADES" = some (some (.int 8 t16)))
    (h17 : PySem.W.nsIn K mainGlobals "LEAST_NAMES" = some (some (.int 2 t17)))
    (h18 : PySem.W.nsIn K mainGlobals "MOST_NAMES" = some (some (.int 16 t18)))
    (h19 : PySem.W.nsIn K mainGlobals "GREATEST_AGE" = some (some (.int 60 t19)))
    : ∀ p ∈ consts, ∃ t, PySem.W.nsIn K mainGlobals p.1 = some (some (.int p.2 t)) :=
  all_cons ⟨_, h0⟩ (all_cons ⟨_, h1⟩ (all_cons ⟨_, h2⟩ (all_cons ⟨_, h3⟩ (all_cons ⟨_, h4⟩ (all_cons ⟨_, h5⟩ (all_cons ⟨_, h6⟩ (all_cons ⟨_, h7⟩ (all_cons ⟨_, h8⟩ (all_cons ⟨_, h9⟩ (all_cons ⟨_, h10⟩ (all_cons ⟨_, h11⟩ (all_cons ⟨_, h12⟩ (all_cons ⟨_, h13⟩ (all_cons ⟨_, h14⟩ (all_cons ⟨_, h15⟩ (all_cons ⟨_, h16⟩ (all_cons ⟨_, h17⟩ (all_cons ⟨_, h18⟩ (all_cons ⟨_, h19⟩ all_nil)))))))))))))))))))
theorem no_pN {K : PySem.W.Frag} {C : Addr} (h0 : PySem.W.findIn K (.ref C) "term" = some none) (h1 : PySem.W.findIn K (.ref C) "grades" = some none) (h2 : PySem.W.findIn K (.ref C) "names" = some none) (h3 : PySem.W.findIn K (.ref C) "youngest" = some none) (h4 : PySem.W.findIn K (.ref C) "oldest" = some none) (h5 : PySem.W.findIn K (.ref C) "year" = some none) (h6 : PySem.W.findIn K (.ref C) "men" = some none) (h7 : PySem.W.findIn K (.ref C) "behind" = some none) (h8 : PySem.W.findIn K (.ref C) "office" = some none) : ∀ x ∈ pN, NoAttr K C x :=
  all_cons h0 (all_cons h1 (all_cons h2 (all_cons h3 (all_cons h4 (all_cons h5 (all_cons h6 (all_cons h7 (all_cons h8 (all_nil)))))))))
theorem no_mN {K : PySem.W.Frag} {C : Addr} (h0 : PySem.W.findIn K (.ref C) "born" = some none) (h1 : PySem.W.findIn K (.ref C) "father" = some none) (h2 : PySem.W.findIn K (.ref C) "lives" = some none) (h3 : PySem.W.findIn K (.ref C) "age_set" = some none) (h4 : PySem.W.findIn K (.ref C) "joined" = some none) : ∀ x ∈ mN, NoAttr K C x :=
  all_cons h0 (all_cons h1 (all_cons h2 (all_cons h3 (all_cons h4 (all_nil)))))
theorem no_hN {K : PySem.W.Frag} {C : Addr} (h0 : PySem.W.findIn K (.ref C) "people" = some none) (h1 : PySem.W.findIn K (.ref C) "past" = some none) (h2 : PySem.W.findIn K (.ref C) "undone" = some none) : ∀ x ∈ hN, NoAttr K C x :=
  all_cons h0 (all_cons h1 (all_cons h2 (all_nil)))
section
variable {P : Program} {w : World} {K : PySem.W.Frag} {mg : Str → Option Value} {base : Heap} {CP CM CH CL : Addr} {Tb : List (Addr × Str)}
theorem held {x : Str} {st : Stmt} {f : Addr} {fd : FuncData} {ps : List Str} {j k : Nat} {sp : Sp} (a : FnAt K mg x st f fd ps) (g : FnOk P w K mg base CX0 j f fd ps sp) (h : j ≤ k) : Held P w K mg base k f sp := ⟨fd, ps, g.mono h, a.fn.kp, a.bi⟩
theorem heldQ {x : Str} {st : Stmt} {f : Addr} {fd : FuncData} {ps : List Str} {j k n : Nat} {c : List Nat → Call} (a : FnAt K mg x st f fd ps) (g : FnOk P w K mg base CX0 j f fd ps (spQ K CP CM n c)) (h : j ≤ k) : Held P w K mg base k f (spQT K CP CM Tb n c) := ⟨fd, ps, (g.imp fun vs H Q E z => spQ_T vs H Q E z).mono h, a.fn.kp, a.bi⟩
end
theorem all_mk {r : PySem.W.OpenSpec} {w : World} {K : PySem.W.Frag} {h : Heap} {mg : Str → Option Value} {fa CP CM CH CL dC dH dQ gc cS tS f_cpm f_cpp f_cat f_oa f_yf f_nf f_sn f_tn f_os f_mj f_wm f_fy f_hm f_ws f_born f_dies f_en f_join f_joina f_pass f_beh f_off f_isc f_mkc f_back f_again f_state f_ish f_anh f_grade f_setin f_str f_rul f_spk f_may f_mis f_whe f_age f_sen f_ist f_tur f_son f_lin f_inr f_ret f_nex f_hsn f_nam f_onm f_tol f_anq f_can f_ans m_mi m_pi m_ni m_nw m_yl m_no m_hma m_hg m_hn m_si m_go m_hre m_ao m_li m_hi m_ch m_mo m_le m_be m_an : Addr} {fd_cpm fd_cpp fd_cat fd_oa fd_yf fd_nf fd_sn fd_tn fd_os fd_mj fd_wm fd_fy fd_hm fd_ws fd_born fd_dies fd_en fd_join fd_joina fd_pass fd_beh fd_off fd_isc fd_mkc fd_back fd_again fd_state fd_ish fd_anh fd_grade fd_setin fd_str fd_rul fd_spk fd_may fd_mis fd_whe fd_age fd_sen fd_ist fd_tur fd_son fd_lin fd_inr fd_ret fd_nex fd_hsn fd_nam fd_onm fd_tol fd_anq fd_can fd_ans md_mi md_pi md_ni md_nw md_yl md_no md_hma md_hg md_hn md_si md_go md_hre md_ao md_li md_hi md_ch md_mo md_le md_be md_an : FuncData} {eC eH eQ : List DictEntry} {nC0 nH0 nQ0 : Nat} {oT oS : Option Addr} {iT vS : Array Value} {nT : Nat} {sT sS : Array (Option Value)} {kS : Value}
    (X : K.In h) (G : h.Ns mainGlobals mg) (hfa : mg "answers" = some (.ref fa))
    (cM : GC K "Man" CM) (cP : GC K "People" CP) (cH : GC K "History" CH) (cL : GC K "Line" CL)
    (naP : ∀ x ∈ pN, NoAttr K CP x) (naM : ∀ x ∈ mN, NoAttr K CM x) (naH : ∀ x ∈ hN, NoAttr K CH x) (naL : PySem.W.findIn K (.ref CL) "history" = some none) (hne : CP ≠ CM)
    (g_cpm : GF K "copied_man" sCopyMan f_cpm fd_cpm)
    (g_cpp : GF K "copied_people" sCopyPeople f_cpp fd_cpp)
    (g_cat : GF K "counted_and_together" sAsSet f_cat fd_cat)
    (g_oa : GF K "is_of_age" sOfAge f_oa fd_oa)
    (g_yf : GF K "year_far_from_father" sYearFar f_yf fd_yf)
    (g_nf : GF K "is_near_father" sNear f_nf fd_nf)
    (g_sn : GF K "has_son_in_set" sSon f_sn fd_sn)
    (g_tn : GF K "is_too_near" sTooNear f_tn fd_tn)
    (g_os : GF K "is_outside" sOutside f_os fd_os)
    (g_mj : GF K "may_join" sMayJoin f_mj fd_mj)
    (g_wm : GF K "who_may_join" sWho f_wm fd_wm)
    (g_fy : GF K "first_year_to_join" sFirst f_fy fd_fy)
    (g_hm : GF K "has_missed" sHasMissed f_hm fd_hm)
    (g_ws : GF K "who_missed" sWhoMissed f_ws fd_ws)
    (g_born : GF K "pp_born" sCBorn f_born fd_born)
    (g_dies : GF K "pp_dies" sCDies f_dies fd_dies)
    (g_en : GF K "enter_newest" sEnter f_en fd_en)
    (g_join : GF K "pp_join" sCJoin f_join fd_join)
    (g_joina : GF K "pp_join_all" sCJoinAll f_joina fd_joina)
    (g_pass : GF K "pp_pass" sCPass f_pass fd_pass)
    (g_beh : GF K "pp_behind" sCBehind f_beh fd_beh)
    (g_off : GF K "pp_office" sCOffice f_off fd_off)
    (g_isc : GF K "is_change" sIsChange f_isc fd_isc)
    (g_mkc : GF K "make_change" sMakeChange f_mkc fd_mkc)
    (g_back : GF K "pp_back" sBack f_back fd_back)
    (g_again : GF K "pp_again" sAgain f_again fd_again)
    (g_state : GF K "pp_state" sState f_state fd_state)
    (g_ish : GF K "is_history_call" sIsHist f_ish fd_ish)
    (g_anh : GF K "answer_history_call" sAnsHist f_anh fd_anh)
    (g_grade : GF K "pp_grade" sQGrade f_grade fd_grade)
    (g_setin : GF K "pp_set_in" sQSetIn f_setin fd_setin)
    (g_str : GF K "pp_strength" sQStrength f_str fd_str)
    (g_rul : GF K "pp_ruler" sQRuler f_rul fd_rul)
    (g_spk : GF K "pp_speaker" sQSpeaker f_spk fd_spk)
    (g_may : GF K "pp_may" sQMay f_may fd_may)
    (g_mis : GF K "pp_missed" sQMissed f_mis fd_mis)
    (g_whe : GF K "pp_when" sQWhen f_whe fd_whe)
    (g_age : GF K "pp_age" sQAge f_age fd_age)
    (g_sen : GF K "pp_senior" sQSenior f_sen fd_sen)
    (g_ist : GF K "is_turned" sIsTurned f_ist fd_ist)
    (g_tur : GF K "pp_turned" sQTurned f_tur fd_tur)
    (g_son : GF K "pp_sons" sQSons f_son fd_son)
    (g_lin : GF K "pp_line" sQLine f_lin fd_lin)
    (g_inr : GF K "is_in_retirement" sInRet f_inr fd_inr)
    (g_ret : GF K "pp_retired" sQRetired f_ret fd_ret)
    (g_nex : GF K "pp_next" sQNext f_nex fd_nex)
    (g_hsn : GF K "has_set_named" sHasNamed f_hsn fd_hsn)
    (g_nam : GF K "pp_named" sQNamed f_nam fd_nam)
    (g_onm : GF K "one_more" sOneMore f_onm fd_onm)
    (g_tol : GF K "pp_told" sQTold f_tol fd_tol)
    (g_anq : GF K "answer_question" sAnsQ f_anq fd_anq)
    (g_can : GF K "can_start" sCanStart f_can fd_can)
    (g_ans : GF K "answers" sAnswers f_ans fd_ans)
    (n_mi : GM K CM "__init__" "Man.__init__" sManInit m_mi md_mi)
    (n_pi : GM K CP "__init__" "People.__init__" sPeopleInit m_pi md_pi)
    (n_ni : GM K CP "newest_in" "People.newest_in" sNewestIn m_ni md_ni)
    (n_nw : GM K CP "newest" "People.newest" sNewest m_nw md_nw)
    (n_yl : GM K CP "years_left" "People.years_left" sYearsLeft m_yl md_yl)
    (n_no : GM K CP "name_of" "People.name_of" sNameOf m_no md_no)
    (n_hma : GM K CP "has_man" "People.has_man" sHasMan m_hma md_hma)
    (n_hg : GM K CP "has_grade" "People.has_grade" sHasGrade m_hg md_hg)
    (n_hn : GM K CP "has_name" "People.has_name" sHasName m_hn md_hn)
    (n_si : GM K CP "set_in" "People.set_in" sSetIn m_si md_si)
    (n_go : GM K CP "grade_of" "People.grade_of" sGradeOf m_go md_go)
    (n_hre : GM K CP "has_retired" "People.has_retired" sHasRetired m_hre md_hre)
    (n_ao : GM K CP "age_of" "People.age_of" sAgeOf m_ao md_ao)
    (n_li : GM K CP "living_in" "People.living_in" sLivingIn m_li md_li)
    (n_hi : GM K CH "__init__" "History.__init__" sHistInit m_hi md_hi)
    (n_ch : GM K CH "change" "History.change" sChange m_ch md_ch)
    (n_mo : GM K CH "move_on" "History.move_on" sMoveOn m_mo md_mo)
    (n_le : GM K CL "__init__" "Line.__init__" sLineInit m_le md_le)
    (n_be : GM K CL "begin" "Line.begin" sBegin m_be md_be)
    (n_an : GM K CL "answer" "Line.answer" sAnswer m_an md_an)
    (hcs : ∀ p ∈ consts, ∃ t, PySem.W.nsIn K mainGlobals p.1 = some (some (.int p.2 t)))
    (b_len : PySem.W.nsIn K mainGlobals "len" = some none)
    (b_enumerate : PySem.W.nsIn K mainGlobals "enumerate" = some none)
    (b_range : PySem.W.nsIn K mainGlobals "range" = some none)
    (b_any : PySem.W.nsIn K mainGlobals "any" = some none)
    (b_min : PySem.W.nsIn K mainGlobals "min" = some none)
    (b_max : PySem.W.nsIn K mainGlobals "max" = some none)
    (gdC : GD K "CHANGES" dC eC nC0 [(1, f_born), (2, f_dies), (3, f_join), (4, f_joina), (5, f_pass), (6, f_beh), (7, f_off)])
    (gdH : GD K "HISTORY_CALLS" dH eH nH0 [(25, f_back), (26, f_again), (27, f_state)])
    (gdQ : GD K "QUESTIONS" dQ eQ nQ0 [(8, f_grade), (9, f_setin), (10, f_str), (11, f_rul), (12, f_spk), (13, f_may), (14, f_mis), (15, f_whe), (16, f_age), (17, f_sen), (18, f_tur), (19, f_son), (20, f_lin), (21, f_ret), (22, f_nex), (23, f_nam), (24, f_tol)])
    (gT : PySem.W.nsIn K mainGlobals "GIVEN_COUNTS" = some (some (.ref gc))) (lT : K.lookup gc = some ⟨.type "tuple", oT, .seq iT nT, sT⟩) (zT : Nat.ble iT.size sizeLine = true) (vT : Vals (nV counts) iT.toList)
    (hcS : fd_spk.code = .ref cS) (lcS : K.lookup cS = some ⟨kS, oS, .fields vS, sS⟩) (v11 : vS[11]? = some (.ref tS)) (htS : PySem.W.tabIn K "pp_speaker" = some (cS, tS) → PySem.W.CodeHd h cS tS ∧ h.get? tS = some emptyTab) (hkS : K.lookup tS = none) :
    ∃ fd cs, SpecAt r w K 10 ["calls"] (fun K cs => spAns K (cs.map fun p => (p.2, qSp))) mg fa h fd cs := by
  have e : f_ans = fa := by
    have z := (PySem.W.mg_of X G g_ans.a).symm.trans hfa
    injection z with z
    injection z
  subst e
  have T : TxS K mg CP CM := ⟨hne, cP.cls, cM.cls, naP, naM, PySem.W.mg_of X G cP.a, PySem.W.mg_of X G cM.a, (fun p hp => let ⟨t, e⟩ := hcs p hp; ⟨t, PySem.W.mg_of X G e⟩), PySem.W.mg_none_of X G b_len, PySem.W.mg_none_of X G b_enumerate, PySem.W.mg_none_of X G b_range, PySem.W.mg_none_of X G b_any, PySem.W.mg_none_of X G b_min, PySem.W.mg_none_of X G b_max⟩
  have TH : TxH K mg CH := ⟨cH.cls, naH, PySem.W.mg_of X G cH.a⟩
  have TL : TxL K CL := ⟨cL.cls, naL⟩
  have A_cpm : FnAt K mg "copied_man" sCopyMan f_cpm fd_cpm ["man"] := ⟨g_cpm.fn, PySem.W.mg_of X G g_cpm.a, g_cpm.fn.binds (ps := ["man"]) fun _ _ _ _ _ _ us hl => match us, hl with | [_], _ => rfl⟩
  have A_cpp : FnAt K mg "copied_people" sCopyPeople f_cpp fd_cpp ["people"] := ⟨g_cpp.fn, PySem.W.mg_of X G g_cpp.a, g_cpp.fn.binds (ps := ["people"]) fun _ _ _ _ _ _ us hl => match us, hl with | [_], _ => rfl⟩
  have A_cat : FnAt K mg "counted_and_together" sAsSet f_cat fd_cat ["numbers"] := ⟨g_cat.fn, PySem.W.mg_of X G g_cat.a, g_cat.fn.binds (ps := ["numbers"]) fun _ _ _ _ _ _ us hl => match us, hl with | [_], _ => rfl⟩
  have A_oa : FnAt K mg "is_of_age" sOfAge f_oa fd_oa ["people", "man"] := ⟨g_oa.fn, PySem.W.mg_of X G g_oa.a, g_oa.fn.binds (ps := ["people", "man"]) fun _ _ _ _ _ _ us hl => match us, hl with | [_, _], _ => rfl⟩
  have A_yf : FnAt K mg "year_far_from_father" sYearFar f_yf fd_yf ["people", "man"] := ⟨g_yf.fn, PySem.W.mg_of X G g_yf.a, g_yf.fn.binds (ps := ["people", "man"]) fun _ _ _ _ _ _ us hl => match us, hl with | [_, _], _ => rfl⟩
  have A_nf : FnAt K mg "is_near_father" sNear f_nf fd_nf ["people", "man"] := ⟨g_nf.fn, PySem.W.mg_of X G g_nf.a, g_nf.fn.binds (ps := ["people", "man"]) fun _ _ _ _ _ _ us hl => match us, hl with | [_, _], _ => rfl⟩
  have A_sn : FnAt K mg "has_son_in_set" sSon f_sn fd_sn ["people", "number"] := ⟨g_sn.fn, PySem.W.mg_of X G g_sn.a, g_sn.fn.binds (ps := ["people", "number"]) fun _ _ _ _ _ _ us hl => match us, hl with | [_, _], _ => rfl⟩
  have A_tn : FnAt K mg "is_too_near" sTooNear f_tn fd_tn ["people", "number"] := ⟨g_tn.fn, PySem.W.mg_of X G g_tn.a, g_tn.fn.binds (ps := ["people", "number"]) fun _ _ _ _ _ _ us hl => match us, hl with | [_, _], _ => rfl⟩
  have A_os : FnAt K mg "is_outside" sOutside f_os fd_os ["man"] := ⟨g_os.fn, PySem.W.mg_of X G g_os.a, g_os.fn.binds (ps := ["man"]) fun _ _ _ _ _ _ us hl => match us, hl with | [_], _ => rfl⟩
  have A_mj : FnAt K mg "may_join" sMayJoin f_mj fd_mj ["people", "number"] := ⟨g_mj.fn, PySem.W.mg_of X G g_mj.a, g_mj.fn.binds (ps := ["people", "number"]) fun _ _ _ _ _ _ us hl => match us, hl with | [_, _], _ => rfl⟩
  have A_wm : FnAt K mg "who_may_join" sWho f_wm fd_wm ["people"] := ⟨g_wm.fn, PySem.W.mg_of X G g_wm.a, g_wm.fn.binds (ps := ["people"]) fun _ _ _ _ _ _ us hl => match us, hl with | [_], _ => rfl⟩
  have A_fy : FnAt K mg "first_year_to_join" sFirst f_fy fd_fy ["people", "number"] := ⟨g_fy.fn, PySem.W.mg_of X G g_fy.a, g_fy.fn.binds (ps := ["people", "number"]) fun _ _ _ _ _ _ us hl => match us, hl with | [_, _], _ => rfl⟩
  have A_hm : FnAt K mg "has_missed" sHasMissed f_hm fd_hm ["people", "number"] := ⟨g_hm.fn, PySem.W.mg_of X G g_hm.a, g_hm.fn.binds (ps := ["people", "number"]) fun _ _ _ _ _ _ us hl => match us, hl with | [_, _], _ => rfl⟩
  have A_ws : FnAt K mg "who_missed" sWhoMissed f_ws fd_ws ["people"] := ⟨g_ws.fn, PySem.W.mg_of X G g_ws.a, g_ws.fn.binds (ps := ["people"]) fun _ _ _ _ _ _ us hl => match us, hl with | [_], _ => rfl⟩
  have A_born : FnAt K mg "pp_born" sCBorn f_born fd_born ["people", "given"] := ⟨g_born.fn, PySem.W.mg_of X G g_born.a, g_born.fn.binds (ps := ["people", "given"]) fun _ _ _ _ _ _ us hl => match us, hl with | [_, _], _ => rfl⟩
  have A_dies : FnAt K mg "pp_dies" sCDies f_dies fd_dies ["people", "given"] := ⟨g_dies.fn, PySem.W.mg_of X G g_dies.a, g_dies.fn.binds (ps := ["people", "given"]) fun _ _ _ _ _ _ us hl => match us, hl with | [_, _], _ => rfl⟩
  have A_en : FnAt K mg "enter_newest" sEnter f_en fd_en ["people", "man"] := ⟨g_en.fn, PySem.W.mg_of X G g_en.a, g_en.fn.binds (ps := ["people", "man"]) fun _ _ _ _ _ _ us hl => match us, hl with | [_, _], _ => rfl⟩
  have A_join : FnAt K mg "pp_join" sCJoin f_join fd_join ["people", "given"] := ⟨g_join.fn, PySem.W.mg_of X G g_join.a, g_join.fn.binds (ps := ["people", "given"]) fun _ _ _ _ _ _ us hl => match us, hl with | [_, _], _ => rfl⟩
  have A_joina : FnAt K mg "pp_join_all" sCJoinAll f_joina fd_joina ["people", "given"] := ⟨g_joina.fn, PySem.W.mg_of X G g_joina.a, g_joina.fn.binds (ps := ["people", "given"]) fun _ _ _ _ _ _ us hl => match us, hl with | [_, _], _ => rfl⟩
  have A_pass : FnAt K mg "pp_pass" sCPass f_pass fd_pass ["people", "given"] := ⟨g_pass.fn, PySem.W.mg_of X G g_pass.a, g_pass.fn.binds (ps := ["people", "given"]) fun _ _ _ _ _ _ us hl => match us, hl with | [_, _], _ => rfl⟩
  have A_beh : FnAt K mg "pp_behind" sCBehind f_beh fd_beh ["people", "given"] := ⟨g_beh.fn, PySem.W.mg_of X G g_beh.a, g_beh.fn.binds (ps := ["people", "given"]) fun _ _ _ _ _ _ us hl => match us, hl with | [_, _], _ => rfl⟩
  have A_off : FnAt K mg "pp_office" sCOffice f_off fd_off ["people", "given"] := ⟨g_off.fn, PySem.W.mg_of X G g_off.a, g_off.fn.binds (ps := ["people", "given"]) fun _ _ _ _ _ _ us hl => match us, hl with | [_, _], _ => rfl⟩
  have A_isc : FnAt K mg "is_change" sIsChange f_isc fd_isc ["number"] := ⟨g_isc.fn, PySem.W.mg_of X G g_isc.a, g_isc.fn.binds (ps := ["number"]) fun _ _ _ _ _ _ us hl => match us, hl with | [_], _ => rfl⟩
  have A_mkc : FnAt K mg "make_change" sMakeChange f_mkc fd_mkc ["people", "number", "given"] := ⟨g_mkc.fn, PySem.W.mg_of X G g_mkc.a, g_mkc.fn.binds (ps := ["people", "number", "given"]) fun _ _ _ _ _ _ us hl => match us, hl with | [_, _, _], _ => rfl⟩
  have A_back : FnAt K mg "pp_back" sBack f_back fd_back ["history"] := ⟨g_back.fn, PySem.W.mg_of X G g_back.a, g_back.fn.binds (ps := ["history"]) fun _ _ _ _ _ _ us hl => match us, hl with | [_], _ => rfl⟩
  have A_again : FnAt K mg "pp_again" sAgain f_again fd_again ["history"] := ⟨g_again.fn, PySem.W.mg_of X G g_again.a, g_again.fn.binds (ps := ["history"]) fun _ _ _ _ _ _ us hl => match us, hl with | [_], _ => rfl⟩
  have A_state : FnAt K mg "pp_state" sState f_state fd_state ["history"] := ⟨g_state.fn, PySem.W.mg_of X G g_state.a, g_state.fn.binds (ps := ["history"]) fun _ _ _ _ _ _ us hl => match us, hl with | [_], _ => rfl⟩
  have A_ish : FnAt K mg "is_history_call" sIsHist f_ish fd_ish ["number"] := ⟨g_ish.fn, PySem.W.mg_of X G g_ish.a, g_ish.fn.binds (ps := ["number"]) fun _ _ _ _ _ _ us hl => match us, hl with | [_], _ => rfl⟩
  have A_anh : FnAt K mg "answer_history_call" sAnsHist f_anh fd_anh ["history", "number"] := ⟨g_anh.fn, PySem.W.mg_of X G g_anh.a, g_anh.fn.binds (ps := ["history", "number"]) fun _ _ _ _ _ _ us hl => match us, hl with | [_, _], _ => rfl⟩
  have A_grade : FnAt K mg "pp_grade" sQGrade f_grade fd_grade ["people", "given"] := ⟨g_grade.fn, PySem.W.mg_of X G g_grade.a, g_grade.fn.binds (ps := ["people", "given"]) fun _ _ _ _ _ _ us hl => match us, hl with | [_, _], _ => rfl⟩
  have A_setin : FnAt K mg "pp_set_in" sQSetIn f_setin fd_setin ["people", "given"] := ⟨g_setin.fn, PySem.W.mg_of X G g_setin.a, g_setin.fn.binds (ps := ["people", "given"]) fun _ _ _ _ _ _ us hl => match us, hl with | [_, _], _ => rfl⟩
  have A_str : FnAt K mg "pp_strength" sQStrength f_str fd_str ["people", "given"] := ⟨g_str.fn, PySem.W.mg_of X G g_str.a, g_str.fn.binds (ps := ["people", "given"]) fun _ _ _ _ _ _ us hl => match us, hl with | [_, _], _ => rfl⟩
  have A_rul : FnAt K mg "pp_ruler" sQRuler f_rul fd_rul ["people", "given"] := ⟨g_rul.fn, PySem.W.mg_of X G g_rul.a, g_rul.fn.binds (ps := ["people", "given"]) fun _ _ _ _ _ _ us hl => match us, hl with | [_, _], _ => rfl⟩
  have A_spk : FnAt K mg "pp_speaker" sQSpeaker f_spk fd_spk ["people", "given"] := ⟨g_spk.fn, PySem.W.mg_of X G g_spk.a, g_spk.fn.binds (ps := ["people", "given"]) fun _ _ _ _ _ _ us hl => match us, hl with | [_, _], _ => rfl⟩
  have A_may : FnAt K mg "pp_may" sQMay f_may fd_may ["people", "given"] := ⟨g_may.fn, PySem.W.mg_of X G g_may.a, g_may.fn.binds (ps := ["people", "given"]) fun _ _ _ _ _ _ us hl => match us, hl with | [_, _], _ => rfl⟩
  have A_mis : FnAt K mg "pp_missed" sQMissed f_mis fd_mis ["people", "given"] := ⟨g_mis.fn, PySem.W.mg_of X G g_mis.a, g_mis.fn.binds (ps := ["people", "given"]) fun _ _ _ _ _ _ us hl => match us, hl with | [_, _], _ => rfl⟩
  have A_whe : FnAt K mg "pp_when" sQWhen f_whe fd_whe ["people", "given"] := ⟨g_whe.fn, PySem.W.mg_of X G g_whe.a, g_whe.fn.binds (ps := ["people", "given"]) fun _ _ _ _ _ _ us hl => match us, hl with | [_, _], _ => rfl⟩
  have A_age : FnAt K mg "pp_age" sQAge f_age fd_age ["people", "given"] := ⟨g_age.fn, PySem.W.mg_of X G g_age.a, g_age.fn.binds (ps := ["people", "given"]) fun _ _ _ _ _ _ us hl => match us, hl with | [_, _], _ => rfl⟩
  have A_sen : FnAt K mg "pp_senior" sQSenior f_sen fd_sen ["people", "given"] := ⟨g_sen.fn, PySem.W.mg_of X G g_sen.a, g_sen.fn.binds (ps := ["people", "given"]) fun _ _ _ _ _ _ us hl => match us, hl with | [_, _], _ => rfl⟩
  have A_ist : FnAt K mg "is_turned" sIsTurned f_ist fd_ist ["elder", "younger"] := ⟨g_ist.fn, PySem.W.mg_of X G g_ist.a, g_ist.fn.binds (ps := ["elder", "younger"]) fun _ _ _ _ _ _ us hl => match us, hl with | [_, _], _ => rfl⟩
  have A_tur : FnAt K mg "pp_turned" sQTurned f_tur fd_tur ["people", "given"] := ⟨g_tur.fn, PySem.W.mg_of X G g_tur.a, g_tur.fn.binds (ps := ["people", "given"]) fun _ _ _ _ _ _ us hl => match us, hl with | [_, _], _ => rfl⟩
  have A_son : FnAt K mg "pp_sons" sQSons f_son fd_son ["people", "given"] := ⟨g_son.fn, PySem.W.mg_of X G g_son.a, g_son.fn.binds (ps := ["people", "given"]) fun _ _ _ _ _ _ us hl => match us, hl with | [_, _], _ => rfl⟩
  have A_lin : FnAt K mg "pp_line" sQLine f_lin fd_lin ["people", "given"] := ⟨g_lin.fn, PySem.W.mg_of X G g_lin.a, g_lin.fn.binds (ps := ["people", "given"]) fun _ _ _ _ _ _ us hl => match us, hl with | [_, _], _ => rfl⟩
  have A_inr : FnAt K mg "is_in_retirement" sInRet f_inr fd_inr ["people", "man"] := ⟨g_inr.fn, PySem.W.mg_of X G g_inr.a, g_inr.fn.binds (ps := ["people", "man"]) fun _ _ _ _ _ _ us hl => match us, hl with | [_, _], _ => rfl⟩
  have A_ret : FnAt K mg "pp_retired" sQRetired f_ret fd_ret ["people", "given"] := ⟨g_ret.fn, PySem.W.mg_of X G g_ret.a, g_ret.fn.binds (ps := ["people", "given"]) fun _ _ _ _ _ _ us hl => match us, hl with | [_, _], _ => rfl⟩
  have A_nex : FnAt K mg "pp_next" sQNext f_nex fd_nex ["people", "given"] := ⟨g_nex.fn, PySem.W.mg_of X G g_nex.a, g_nex.fn.binds (ps := ["people", "given"]) fun _ _ _ _ _ _ us hl => match us, hl with | [_, _], _ => rfl⟩
  have A_hsn : FnAt K mg "has_set_named" sHasNamed f_hsn fd_hsn ["people", "grade", "name"] := ⟨g_hsn.fn, PySem.W.mg_of X G g_hsn.a, g_hsn.fn.binds (ps := ["people", "grade", "name"]) fun _ _ _ _ _ _ us hl => match us, hl with | [_, _, _], _ => rfl⟩
  have A_nam : FnAt K mg "pp_named" sQNamed f_nam fd_nam ["people", "given"] := ⟨g_nam.fn, PySem.W.mg_of X G g_nam.a, g_nam.fn.binds (ps := ["people", "given"]) fun _ _ _ _ _ _ us hl => match us, hl with | [_, _], _ => rfl⟩
  have A_onm : FnAt K mg "one_more" sOneMore f_onm fd_onm ["number"] := ⟨g_onm.fn, PySem.W.mg_of X G g_onm.a, g_onm.fn.binds (ps := ["number"]) fun _ _ _ _ _ _ us hl => match us, hl with | [_], _ => rfl⟩
  have A_tol : FnAt K mg "pp_told" sQTold f_tol fd_tol ["people", "given"] := ⟨g_tol.fn, PySem.W.mg_of X G g_tol.a, g_tol.fn.binds (ps := ["people", "given"]) fun _ _ _ _ _ _ us hl => match us, hl with | [_, _], _ => rfl⟩
  have A_anq : FnAt K mg "answer_question" sAnsQ f_anq fd_anq ["people", "number", "given"] := ⟨g_anq.fn, PySem.W.mg_of X G g_anq.a, g_anq.fn.binds (ps := ["people", "number", "given"]) fun _ _ _ _ _ _ us hl => match us, hl with | [_, _, _], _ => rfl⟩
  have A_can : FnAt K mg "can_start" sCanStart f_can fd_can ["term", "grades", "names", "youngest", "oldest"] := ⟨g_can.fn, PySem.W.mg_of X G g_can.a, g_can.fn.binds (ps := ["term", "grades", "names", "youngest", "oldest"]) fun _ _ _ _ _ _ us hl => match us, hl with | [_, _, _, _, _], _ => rfl⟩
  have A_ans : FnAt K mg "answers" sAnswers f_ans fd_ans ["calls"] := ⟨g_ans.fn, PySem.W.mg_of X G g_ans.a, g_ans.fn.binds (ps := ["calls"]) fun _ _ _ _ _ _ us hl => match us, hl with | [_], _ => rfl⟩
  have M_mi : MethAt K CM "__init__" "Man.__init__" sManInit m_mi md_mi ["self", "born", "father"] := ⟨n_mi.fn, ⟨n_mi.a, n_mi.i, n_mi.fn.kp⟩, n_mi.fn.binds (ps := ["self", "born", "father"]) fun _ _ _ _ _ _ us hl => match us, hl with | [_, _, _], _ => rfl⟩
  have M_pi : MethAt K CP "__init__" "People.__init__" sPeopleInit m_pi md_pi ["self", "term", "grades", "names", "youngest", "oldest"] := ⟨n_pi.fn, ⟨n_pi.a, n_pi.i, n_pi.fn.kp⟩, n_pi.fn.binds (ps := ["self", "term", "grades", "names", "youngest", "oldest"]) fun _ _ _ _ _ _ us hl => match us, hl with | [_, _, _, _, _, _], _ => rfl⟩
  have M_ni : MethAt K CP "newest_in" "People.newest_in" sNewestIn m_ni md_ni ["self", "year"] := ⟨n_ni.fn, ⟨n_ni.a, n_ni.i, n_ni.fn.kp⟩, n_ni.fn.binds (ps := ["self", "year"]) fun _ _ _ _ _ _ us hl => match us, hl with | [_, _], _ => rfl⟩
  have M_nw : MethAt K CP "newest" "People.newest" sNewest m_nw md_nw ["self"] := ⟨n_nw.fn, ⟨n_nw.a, n_nw.i, n_nw.fn.kp⟩, n_nw.fn.binds (ps := ["self"]) fun _ _ _ _ _ _ us hl => match us, hl with | [_], _ => rfl⟩
  have M_yl : MethAt K CP "years_left" "People.years_left" sYearsLeft m_yl md_yl ["self"] := ⟨n_yl.fn, ⟨n_yl.a, n_yl.i, n_yl.fn.kp⟩, n_yl.fn.binds (ps := ["self"]) fun _ _ _ _ _ _ us hl => match us, hl with | [_], _ => rfl⟩
  have M_no : MethAt K CP "name_of" "People.name_of" sNameOf m_no md_no ["self", "age_set"] := ⟨n_no.fn, ⟨n_no.a, n_no.i, n_no.fn.kp⟩, n_no.fn.binds (ps := ["self", "age_set"]) fun _ _ _ _ _ _ us hl => match us, hl with | [_, _], _ => rfl⟩
  have M_hma : MethAt K CP "has_man" "People.has_man" sHasMan m_hma md_hma ["self", "number"] := ⟨n_hma.fn, ⟨n_hma.a, n_hma.i, n_hma.fn.kp⟩, n_hma.fn.binds (ps := ["self", "number"]) fun _ _ _ _ _ _ us hl => match us, hl with | [_, _], _ => rfl⟩
  have M_hg : MethAt K CP "has_grade" "People.has_grade" sHasGrade m_hg md_hg ["self", "grade"] := ⟨n_hg.fn, ⟨n_hg.a, n_hg.i, n_hg.fn.kp⟩, n_hg.fn.binds (ps := ["self", "grade"]) fun _ _ _ _ _ _ us hl => match us, hl with | [_, _], _ => rfl⟩
  have M_hn : MethAt K CP "has_name" "People.has_name" sHasName m_hn md_hn ["self", "name"] := ⟨n_hn.fn, ⟨n_hn.a, n_hn.i, n_hn.fn.kp⟩, n_hn.fn.binds (ps := ["self", "name"]) fun _ _ _ _ _ _ us hl => match us, hl with | [_, _], _ => rfl⟩
  have M_si : MethAt K CP "set_in" "People.set_in" sSetIn m_si md_si ["self", "grade"] := ⟨n_si.fn, ⟨n_si.a, n_si.i, n_si.fn.kp⟩, n_si.fn.binds (ps := ["self", "grade"]) fun _ _ _ _ _ _ us hl => match us, hl with | [_, _], _ => rfl⟩
  have M_go : MethAt K CP "grade_of" "People.grade_of" sGradeOf m_go md_go ["self", "age_set"] := ⟨n_go.fn, ⟨n_go.a, n_go.i, n_go.fn.kp⟩, n_go.fn.binds (ps := ["self", "age_set"]) fun _ _ _ _ _ _ us hl => match us, hl with | [_, _], _ => rfl⟩
  have M_hre : MethAt K CP "has_retired" "People.has_retired" sHasRetired m_hre md_hre ["self", "age_set"] := ⟨n_hre.fn, ⟨n_hre.a, n_hre.i, n_hre.fn.kp⟩, n_hre.fn.binds (ps := ["self", "age_set"]) fun _ _ _ _ _ _ us hl => match us, hl with | [_, _], _ => rfl⟩
  have M_ao : MethAt K CP "age_of" "People.age_of" sAgeOf m_ao md_ao ["self", "man"] := ⟨n_ao.fn, ⟨n_ao.a, n_ao.i, n_ao.fn.kp⟩, n_ao.fn.binds (ps := ["self", "man"]) fun _ _ _ _ _ _ us hl => match us, hl with | [_, _], _ => rfl⟩
  have M_li : MethAt K CP "living_in" "People.living_in" sLivingIn m_li md_li ["self", "age_set"] := ⟨n_li.fn, ⟨n_li.a, n_li.i, n_li.fn.kp⟩, n_li.fn.binds (ps := ["self", "age_set"]) fun _ _ _ _ _ _ us hl => match us, hl with | [_, _], _ => rfl⟩
  have M_hi : MethAt K CH "__init__" "History.__init__" sHistInit m_hi md_hi ["self", "people"] := ⟨n_hi.fn, ⟨n_hi.a, n_hi.i, n_hi.fn.kp⟩, n_hi.fn.binds (ps := ["self", "people"]) fun _ _ _ _ _ _ us hl => match us, hl with | [_, _], _ => rfl⟩
  have M_ch : MethAt K CH "change" "History.change" sChange m_ch md_ch ["self", "number", "given"] := ⟨n_ch.fn, ⟨n_ch.a, n_ch.i, n_ch.fn.kp⟩, n_ch.fn.binds (ps := ["self", "number", "given"]) fun _ _ _ _ _ _ us hl => match us, hl with | [_, _, _], _ => rfl⟩
  have M_mo : MethAt K CH "move_on" "History.move_on" sMoveOn m_mo md_mo ["self", "changed"] := ⟨n_mo.fn, ⟨n_mo.a, n_mo.i, n_mo.fn.kp⟩, n_mo.fn.binds (ps := ["self", "changed"]) fun _ _ _ _ _ _ us hl => match us, hl with | [_, _], _ => rfl⟩
  have M_le : MethAt K CL "__init__" "Line.__init__" sLineInit m_le md_le ["self"] := ⟨n_le.fn, ⟨n_le.a, n_le.i, n_le.fn.kp⟩, n_le.fn.binds (ps := ["self"]) fun _ _ _ _ _ _ us hl => match us, hl with | [_], _ => rfl⟩
  have M_be : MethAt K CL "begin" "Line.begin" sBegin m_be md_be ["self", "given"] := ⟨n_be.fn, ⟨n_be.a, n_be.i, n_be.fn.kp⟩, n_be.fn.binds (ps := ["self", "given"]) fun _ _ _ _ _ _ us hl => match us, hl with | [_, _], _ => rfl⟩
  have M_an : MethAt K CL "answer" "Line.answer" sAnswer m_an md_an ["self", "number", "given"] := ⟨n_an.fn, ⟨n_an.a, n_an.i, n_an.fn.kp⟩, n_an.fn.binds (ps := ["self", "number", "given"]) fun _ _ _ _ _ _ us hl => match us, hl with | [_, _, _], _ => rfl⟩
  have mkM : Mk K CM m_mi := ⟨cM.mks, n_mi.a, n_mi.i, cM.kc⟩
  have mkP : Mk K CP m_pi := ⟨cP.mks, n_pi.a, n_pi.i, cP.kc⟩
  have mkH : Mk K CH m_hi := ⟨cH.mks, n_hi.a, n_hi.i, cH.kc⟩
  have mkL : Mk K CL m_le := ⟨cL.mks, n_le.a, n_le.i, cL.kc⟩
  have DC : TabD K mg "CHANGES" dC eC nC0 _ nC := ⟨gdC.at_, gdC.tab, gdC.low, PySem.W.mg_of X G gdC.a, rfl⟩
  have DH : TabD K mg "HISTORY_CALLS" dH eH nH0 _ nH := ⟨gdH.at_, gdH.tab, gdH.low, PySem.W.mg_of X G gdH.a, rfl⟩
  have DQ : TabD K mg "QUESTIONS" dQ eQ nQ0 _ nQ := ⟨gdQ.at_, gdQ.tab, gdQ.low, PySem.W.mg_of X G gdQ.a, rfl⟩
  refine ⟨fd_ans, [(cS, tS)], ⟨fun p hp => ?_, fun p hp => ?_, fun s us hl => ?_, fun base kb nb tb => ?_⟩⟩
  · have e : p = (cS, tS) := by simpa using hp
    rw [e]
    exact htS (tab_in g_spk hcS lcS v11)
  · have e : p = (cS, tS) := by simpa using hp
    rw [e]
    exact hkS
  · obtain ⟨oc, od, kV, doc, pm, an, cdv, ct, osl, rfl, lk, hcd⟩ := g_ans.fn.ex
    match us, hl with
    | [_], _ => exact .of_eq rfl
  · have TB : TabB base mg cS tS := tb (cS, tS) (.head _)
    have G_nw : FnOk r.prog w K mg base CX0 2 m_nw md_nw ["self"] (spNewest CP CM) := ok_newest M_nw.fn T M_ni
    have G_go : FnOk r.prog w K mg base CX0 3 m_go md_go ["self", "age_set"] (spGradeOf CP CM) := ok_gradeOf M_go.fn T M_nw G_nw
    have G_si : FnOk r.prog w K mg base CX0 3 m_si md_si ["self", "grade"] (spSetIn CP CM) := ok_setIn M_si.fn T M_nw G_nw
    have G_hre : FnOk r.prog w K mg base CX0 4 m_hre md_hre ["self", "age_set"] (spHasRetired CP CM) := ok_hasRetired M_hre.fn T M_hg M_go G_go
    have G_oa : FnOk r.prog w K mg base CX0 2 f_oa fd_oa ["people", "man"] (spOfAge CP CM) := ok_ofAge A_oa.fn T M_ao
    have G_nf : FnOk r.prog w K mg base CX0 2 f_nf fd_nf ["people", "man"] (spNear CP CM) := ok_near A_nf.fn T A_yf
    have G_sn : FnOk r.prog w K mg base CX0 1 f_sn fd_sn ["people", "number"] (spSon CP CM) := ok_son A_sn.fn T
    have G_tn : FnOk r.prog w K mg base CX0 3 f_tn fd_tn ["people", "number"] (spTooNear CP CM) := ok_tooNear A_tn.fn T A_nf A_sn G_nf G_sn
    have G_mj : FnOk r.prog w K mg base CX0 4 f_mj fd_mj ["people", "number"] (spMayJoin CP CM) := ok_mayJoin A_mj.fn T A_os A_oa A_tn G_oa G_tn
    have G_wm : FnOk r.prog w K mg base CX0 5 f_wm fd_wm ["people"] (spWho CP CM) := ok_who A_wm.fn T A_mj G_mj
    have G_fy : FnOk r.prog w K mg base CX0 2 f_fy fd_fy ["people", "number"] (spFirst CP CM) := ok_first A_fy.fn T A_os A_sn A_yf
    have G_hm : FnOk r.prog w K mg base CX0 3 f_hm fd_hm ["people", "number"] (spHasMissed CP CM) := ok_hasMissed A_hm.fn T A_os A_fy G_fy
    have G_ws : FnOk r.prog w K mg base CX0 4 f_ws fd_ws ["people"] (spWhoMissed CP CM) := ok_whoMissed A_ws.fn T A_hm G_hm
    have G_en : FnOk r.prog w K mg base CX0 3 f_en fd_en ["people", "man"] (spEnter CP CM) := ok_enter A_en.fn T M_nw G_nw
    have G_inr : FnOk r.prog w K mg base CX0 5 f_inr fd_inr ["people", "man"] (spInRet CP CM) := ok_inRet A_inr.fn T M_hre G_hre
    have G_hsn : FnOk r.prog w K mg base CX0 4 f_hsn fd_hsn ["people", "grade", "name"] (spHasNamed CP CM) := ok_hasNamed A_hsn.fn T M_si M_no G_si
    have G_cpm : FnOk r.prog w K mg base CX0 3 f_cpm fd_cpm ["man"] (spCopyMan CM) := ok_copyMan A_cpm.fn T mkM M_mi.fn M_mi.bi
    have G_cpp : FnOk r.prog w K mg base CX0 4 f_cpp fd_cpp ["people"] (spCopyPeople CP CM) := ok_copyPeople A_cpp.fn T mkP M_pi.fn M_pi.bi A_cpm G_cpm
    have G_mkc : FnOk r.prog w K mg base CX0 6 f_mkc fd_mkc ["people", "number", "given"] (spMake K CP CM) := ok_makeChange (k := 5) A_mkc.fn DC (fun i m c k' a h1 h2 => by
      have hi : i < 7 := lt_of_getElem? h1
      have : i = 0 ∨ i = 1 ∨ i = 2 ∨ i = 3 ∨ i = 4 ∨ i = 5 ∨ i = 6 := by omega
      rcases this with rfl | rfl | rfl | rfl | rfl | rfl | rfl
      · cases h1; cases h2; exact held A_born (ok_cBorn A_born.fn T M_hma mkM M_mi.fn M_mi.bi) (by decide)
      · cases h1; cases h2; exact held A_dies (ok_cDies A_dies.fn T M_hma M_ao) (by decide)
      · cases h1; cases h2; exact held A_join (ok_cJoin A_join.fn T M_hma M_no A_oa A_tn A_en G_oa G_tn G_en) (by decide)
      · cases h1; cases h2; exact held A_joina (ok_cJoinAll A_joina.fn T A_mj A_en A_cat G_mj G_en) (by decide)
      · cases h1; cases h2; exact held A_pass (ok_cPass A_pass.fn T M_nw G_nw) (by decide)
      · cases h1; cases h2; exact held A_beh (ok_cBehind A_beh.fn T) (by decide)
      · cases h1; cases h2; exact held A_off (ok_cOffice A_off.fn T M_hg) (by decide))
    have G_mo : FnOk r.prog w K mg base CX0 1 m_mo md_mo ["self", "changed"] (spMoveOn CH) := ok_moveOn M_mo.fn T TH
    have G_ch : FnOk r.prog w K mg base CX0 7 m_ch md_ch ["self", "number", "given"] (spHChange K CP CM CH [(tS, qSp)]) := ok_change (k := 5) M_ch.fn TH A_cpp A_mkc M_mo (G_cpp.mono (by decide)) G_mkc (G_mo.mono (by decide))
    have G_anh : FnOk r.prog w K mg base CX0 2 f_anh fd_anh ["history", "number"] (spAnsHist CP CM CH [(tS, qSp)]) := ok_ansHist (k := 1) A_anh.fn DH (fun i c k' a h1 h2 => by
      have hi : i < 3 := lt_of_getElem? h1
      have : i = 0 ∨ i = 1 ∨ i = 2 := by omega
      rcases this with rfl | rfl | rfl
      · cases h1; cases h2; exact held A_back (ok_back A_back.fn T TH) (by decide)
      · cases h1; cases h2; exact held A_again (ok_again A_again.fn T TH) (by decide)
      · cases h1; cases h2; exact held A_state (ok_state A_state.fn T TH) (by decide))
    have G_anq : FnOk r.prog w K mg base CX0 7 f_anq fd_anq ["people", "number", "given"] (spAsk K CP CM [(tS, qSp)]) := ok_ansQ (k := 6) A_anq.fn DQ (fun i m c k' a h1 h2 => by
      have hi : i < 17 := lt_of_getElem? h1
      have : i = 0 ∨ i = 1 ∨ i = 2 ∨ i = 3 ∨ i = 4 ∨ i = 5 ∨ i = 6 ∨ i = 7 ∨ i = 8 ∨ i = 9 ∨ i = 10 ∨ i = 11 ∨ i = 12 ∨ i = 13 ∨ i = 14 ∨ i = 15 ∨ i = 16 := by omega
      rcases this with rfl | rfl | rfl | rfl | rfl | rfl | rfl | rfl | rfl | rfl | rfl | rfl | rfl | rfl | rfl | rfl | rfl
      · cases h1; cases h2; exact heldQ A_grade (ok_qGrade A_grade.fn T M_hma M_hre M_go G_hre G_go) (by decide)
      · cases h1; cases h2; exact heldQ A_setin (ok_qSetIn A_setin.fn T M_hg M_si M_no G_si) (by decide)
      · cases h1; cases h2; exact heldQ A_str (ok_qStrength A_str.fn T M_hg M_si M_li A_cat G_si) (by decide)
      · cases h1; cases h2; exact heldQ A_rul (ok_qRuler A_rul.fn T M_si M_li M_no M_yl G_si) (by decide)
      · cases h1; cases h2; exact held A_spk (ok_qSpeaker A_spk.fn hcS TB T M_si M_li M_ao G_si) (by decide)
      · cases h1; cases h2; exact heldQ A_may (ok_qMay A_may.fn T A_wm A_cat G_wm) (by decide)
      · cases h1; cases h2; exact heldQ A_mis (ok_qMissed A_mis.fn T A_ws A_cat G_ws) (by decide)
      · cases h1; cases h2; exact heldQ A_whe (ok_qWhen A_whe.fn T M_hma M_ni A_fy G_fy) (by decide)
      · cases h1; cases h2; exact heldQ A_age (ok_qAge A_age.fn T M_hma M_ao) (by decide)
      · cases h1; cases h2; exact heldQ A_sen (ok_qSenior A_sen.fn T M_hma) (by decide)
      · cases h1; cases h2; exact heldQ A_tur (ok_qTurned A_tur.fn T A_ist) (by decide)
      · cases h1; cases h2; exact heldQ A_son (ok_qSons A_son.fn T M_hma A_cat) (by decide)
      · cases h1; cases h2; exact heldQ A_lin (ok_qLine A_lin.fn T M_hma A_cat) (by decide)
      · cases h1; cases h2; exact heldQ A_ret (ok_qRetired A_ret.fn T A_inr A_cat G_inr) (by decide)
      · cases h1; cases h2; exact heldQ A_nex (ok_qNext A_nex.fn T M_nw M_no M_yl G_nw) (by decide)
      · cases h1; cases h2; exact heldQ A_nam (ok_qNamed A_nam.fn T M_hn A_hsn A_cat G_hsn) (by decide)
      · cases h1; cases h2; exact heldQ A_tol (ok_qTold A_tol.fn T M_hma A_onm) (by decide))
    have G_be : FnOk r.prog w K mg base CX0 3 m_be md_be ["self", "given"] (spBegin K CP CM CH CL [(tS, qSp)]) := ok_begin M_be.fn T TH TL A_can mkP M_pi.fn M_pi.bi mkH M_hi.fn M_hi.bi
    have G_isc : FnOk r.prog w K mg base CX0 1 f_isc fd_isc ["number"] (spIn nC) := ok_isChange A_isc.fn DC
    have G_ish : FnOk r.prog w K mg base CX0 1 f_ish fd_ish ["number"] (spIn nH) := ok_isHist A_ish.fn DH
    have G_an : FnOk r.prog w K mg base CX0 8 m_an md_an ["self", "number", "given"] (spAnswer K [(tS, qSp)] (LA CP CM CH CL)) := ok_answer (k := 6) M_an.fn T TH TL M_be A_isc M_ch A_ish A_anh A_anq (G_be.mono (by decide)) (G_isc.mono (by decide)) G_ch (G_ish.mono (by decide)) (G_anh.mono (by decide)) G_anq
    have G_le : FnOk r.prog w K mg base CX0 8 m_le md_le ["self"] (spLine CL (LA CP CM CH CL)) := ok_lineInit (k := 7) M_le.fn TL
    exact ok_answers (k := 7) A_ans.fn T cL.cls (PySem.W.mg_of X G cL.a) line_ok mkL M_le.bi G_le M_an.mt M_an.bi G_an (PySem.W.mg_of X G gT) (fun H => .inr ⟨_, iT, nT, lT, rfl, rfl, Nat.le_of_ble_eq_true zT, vT⟩)
end AG
namespace AG
open PySem PySem.W PyProof.Rows
/-- the request: what the row lets be handed in is what the loop of answers asks for -/
theorem handed (K : PySem.W.Frag) (cs : List (Addr × Addr)) (qn : Str) (H : L2.Hp) (xs : List L2.V) (a : Codec.denoteAll PySem.Challenge.rw_agegrades_s01_answers.args) (hT : ∀ p ∈ cs, H p.2 = some (.tbl #[]))
    (hwi : Codec.withinAll PySem.Challenge.rw_agegrades_s01_answers.args a = true) (hask : Codec.app PySem.Challenge.rw_agegrades_s01_answers.args PySem.Challenge.rw_agegrades_s01_answers.asked a = true)
    (hx : L2.DwAll K H xs (Codec.encAll PySem.Challenge.rw_agegrades_s01_answers.args a)) :
    spAns K (cs.map fun p => (p.2, qn)) xs H (fun v H' => L2.Dw K H' v (PySem.Challenge.rw_agegrades_s01_answers.ret.enc (Codec.app PySem.Challenge.rw_agegrades_s01_answers.args PySem.Challenge.rw_agegrades_s01_answers.f a))) L2.E0 := by
  cases hx with
  | cons h1 h2 =>
    cases h2
    cases h1 with
    | lst hs ha =>
      have e := L2.ints_dw a.1 _ ha
      subst e
      have q : ((Codec.inLen 0 6000 a.1 && a.1.all (Codec.inInt 0 4294967295)) && true) = true := hwi
      rw [Bool.and_eq_true, Bool.and_eq_true] at q
      refine ⟨_, a.1, rfl, hs, ?_, (Codec.inNat_iff.mp q.1.1).2, hask, fun H' p hp => .lst (L2.SqL.of hp) (L2.dw_ints _)⟩
      intro p hp
      obtain ⟨p0, hp0, rfl⟩ := List.mem_map.mp hp
      exact LamX.TabS.nil (hT p0 hp0)
end AG
open PySem PySem.W PyProof.Rows
set_option maxRecDepth 100000 in
set_option maxHeartbeats 0 in
theorem PySem.Challenge.cw_agegrades_s01_answers_holds : PySem.Challenge.rw_agegrades_s01_answers.Holds := by
  w_on; k_headS; (case hw => exact ⟨[.list [.int 0, .int 1, .int 2, .int 2, .int 0, .int 0]], by decide +kernel, by decide +kernel⟩)
  k_fillS
  refine AG.walk_specT (r := PySem.Challenge.rw_agegrades_s01_answers) (k := 10) (ps := ["calls"]) (sp := fun K cs => AG.spAns K (cs.map fun p => (p.2, AG.qSp))) (by decide +kernel) rfl ⟨rfl, by decide, by decide⟩ (fun w h Y => PySem.W.kIn_of Y) ?F ?S
  case F =>
    intro w mg mb mean fa h Y KX G TT hmg
    refine' AG.all_mk KX G hmg ⟨?cMa, ?cMpg, ?cMhd, ?cMpo, ?cMsa, ?cMmk, ?cMkc⟩ ⟨?cPa, ?cPpg, ?cPhd, ?cPpo, ?cPsa, ?cPmk, ?cPkc⟩ ⟨?cHa, ?cHpg, ?cHhd, ?cHpo, ?cHsa, ?cHmk, ?cHkc⟩ ⟨?cLa, ?cLpg, ?cLhd, ?cLpo, ?cLsa, ?cLmk, ?cLkc⟩ (AG.no_pN ?naP0 ?naP1 ?naP2 ?naP3 ?naP4 ?naP5 ?naP6 ?naP7 ?naP8) (AG.no_mN ?naM0 ?naM1 ?naM2 ?naM3 ?naM4) (AG.no_hN ?naH0 ?naH1 ?naH2) ?naL ?hne ⟨?a_cpm, L2.fun_mk ?l_cpm ?c_cpm ?k_cpm⟩ ⟨?a_cpp, L2.fun_mk ?l_cpp ?c_cpp ?k_cpp⟩ ⟨?a_cat, L2.fun_mk ?l_cat ?c_cat ?k_cat⟩ ⟨?a_oa, L2.fun_mk ?l_oa ?c_oa ?k_oa⟩ ⟨?a_yf, L2.fun_mk ?l_yf ?c_yf ?k_yf⟩ ⟨?a_nf, L2.fun_mk ?l_nf ?c_nf ?k_nf⟩ ⟨?a_sn, L2.fun_mk ?l_sn ?c_sn ?k_sn⟩ ⟨?a_tn, L2.fun_mk ?l_tn ?c_tn ?k_tn⟩ ⟨?a_os, L2.fun_mk ?l_os ?c_os ?k_os⟩ ⟨?a_mj, L2.fun_mk ?l_mj ?c_mj ?k_mj⟩ ⟨?a_wm, L2.fun_mk ?l_wm ?c_wm ?k_wm⟩ ⟨?a_fy, L2.fun_mk ?l_fy ?c_fy ?k_fy⟩ ⟨?a_hm, L2.fun_mk ?l_hm ?c_hm ?k_hm⟩ ⟨?a_ws, L2.fun_mk ?l_ws ?c_ws ?k_ws⟩ ⟨?a_born, L2.fun_mk ?l_born ?c_born ?k_born⟩ ⟨?a_dies, L2.fun_mk ?l_dies ?c_dies ?k_dies⟩ ⟨?a_en, L2.fun_mk ?l_en ?c_en ?k_en⟩ ⟨?a_join, L2.fun_mk ?l_join ?c_join ?k_join⟩ ⟨?a_joina, L2.fun_mk ?l_joina ?c_joina ?k_joina⟩ ⟨?a_pass, L2.fun_mk ?l_pass ?c_pass ?k_pass⟩ ⟨?a_beh, L2.fun_mk ?l_beh ?c_beh ?k_beh⟩ ⟨?a_off, L2.fun_mk ?l_off ?c_off ?k_off⟩ ⟨?a_isc, L2.fun_mk ?l_isc ?c_isc ?k_isc⟩ ⟨?a_mkc, L2.fun_mk ?l_mkc ?c_mkc ?k_mkc⟩ ⟨?a_back, L2.fun_mk ?l_back ?c_back ?k_back⟩ ⟨?a_again, L2.fun_mk ?l_again ?c_again ?k_again⟩ ⟨?a_state, L2.fun_mk ?l_state ?c_state ?k_state⟩ ⟨?a_ish, L2.fun_mk ?l_ish ?c_ish ?k_ish⟩ ⟨?a_anh, L2.fun_mk ?l_anh ?c_anh ?k_anh⟩ ⟨?a_grade, L2.fun_mk ?l_grade ?c_grade ?k_grade⟩ ⟨?a_setin, L2.fun_mk ?l_setin ?c_setin ?k_setin⟩ ⟨?a_str, L2.fun_mk ?l_str ?c_str ?k_str⟩ ⟨?a_rul, L2.fun_mk ?l_rul ?c_rul ?k_rul⟩ ⟨?a_spk, L2.fun_mk ?l_spk ?c_spk ?k_spk⟩ ⟨?a_may, L2.fun_mk ?l_may ?c_may ?k_may⟩ ⟨?a_mis, L2.fun_mk ?l_mis ?c_mis ?k_mis⟩ ⟨?a_whe, L2.fun_mk ?l_whe ?c_whe ?k_whe⟩ ⟨?a_age, L2.fun_mk ?l_age ?c_age ?k_age⟩ ⟨?a_sen, L2.fun_mk ?l_sen ?c_sen ?k_sen⟩ ⟨?a_ist, L2.fun_mk ?l_ist ?c_ist ?k_ist⟩ ⟨?a_tur, L2.fun_mk ?l_tur ?c_tur ?k_tur⟩ ⟨?a_son, L2.fun_mk ?l_son ?c_son ?k_son⟩ ⟨?a_lin, L2.fun_mk ?l_lin ?c_lin ?k_lin⟩ ⟨?a_inr, L2.fun_mk ?l_inr ?c_inr ?k_inr⟩ ⟨?a_ret, L2.fun_mk ?l_ret ?c_ret ?k_ret⟩ ⟨?a_nex, L2.fun_mk ?l_nex ?c_nex ?k_nex⟩ ⟨?a_hsn, L2.fun_mk ?l_hsn ?c_hsn ?k_hsn⟩ ⟨?a_nam, L2.fun_mk ?l_nam ?c_nam ?k_nam⟩ ⟨?a_onm, L2.fun_mk ?l_onm ?c_onm ?k_onm⟩ ⟨?a_tol, L2.fun_mk ?l_tol ?c_tol ?k_tol⟩ ⟨?a_anq, L2.fun_mk ?l_anq ?c_anq ?k_anq⟩ ⟨?a_can, L2.fun_mk ?l_can ?c_can ?k_can⟩ ⟨?a_ans, L2.fun_mk ?l_ans ?c_ans ?k_ans⟩ ⟨?ma_mi, ?mi_mi, L2.fun_mk ?ml_mi ?mc_mi ?mk_mi⟩ ⟨?ma_pi, ?mi_pi, L2.fun_mk ?ml_pi ?mc_pi ?mk_pi⟩ ⟨?ma_ni, ?mi_ni, L2.fun_mk ?ml_ni ?mc_ni ?mk_ni⟩ ⟨?ma_nw, ?mi_nw, L2.fun_mk ?ml_nw ?mc_nw ?mk_nw⟩ ⟨?ma_yl, ?mi_yl, L2.fun_mk ?ml_yl ?mc_yl ?mk_yl⟩ ⟨?ma_no, ?mi_no, L2.fun_mk ?ml_no ?mc_no ?mk_no⟩ ⟨?ma_hma, ?mi_hma, L2.fun_mk ?ml_hma ?mc_hma ?mk_hma⟩ ⟨?ma_hg, ?mi_hg, L2.fun_mk ?ml_hg ?mc_hg ?mk_hg⟩ ⟨?ma_hn, ?mi_hn, L2.fun_mk ?ml_hn ?mc_hn ?mk_hn⟩ ⟨?ma_si, ?mi_si, L2.fun_mk ?ml_si ?mc_si ?mk_si⟩ ⟨?ma_go, ?mi_go, L2.fun_mk ?ml_go ?mc_go ?mk_go⟩ ⟨?ma_hre, ?mi_hre, L2.fun_mk ?ml_hre ?mc_hre ?mk_hre⟩ ⟨?ma_ao, ?mi_ao, L2.fun_mk ?ml_ao ?mc_ao ?mk_ao⟩ ⟨?ma_li, ?mi_li, L2.fun_mk ?ml_li ?mc_li ?mk_li⟩ ⟨?ma_hi, ?mi_hi, L2.fun_mk ?ml_hi ?mc_hi ?mk_hi⟩ ⟨?ma_ch, ?mi_ch, L2.fun_mk ?ml_ch ?mc_ch ?mk_ch⟩ ⟨?ma_mo, ?mi_mo, L2.fun_mk ?ml_mo ?mc_mo ?mk_mo⟩ ⟨?ma_le, ?mi_le, L2.fun_mk ?ml_le ?mc_le ?mk_le⟩ ⟨?ma_be, ?mi_be, L2.fun_mk ?ml_be ?mc_be ?mk_be⟩ ⟨?ma_an, ?mi_an, L2.fun_mk ?ml_an ?mc_an ?mk_an⟩ (AG.consts_of ?cs0 ?cs1 ?cs2 ?cs3 ?cs4 ?cs5 ?cs6 ?cs7 ?cs8 ?cs9 ?cs10 ?cs11 ?cs12 ?cs13 ?cs14 ?cs15 ?cs16 ?cs17 ?cs18 ?cs19) ?b_len ?b_enumerate ?b_range ?b_any ?b_min ?b_max ⟨?daC, ?dlC, ?dtC, ?dwC⟩ ⟨?daH, ?dlH, ?dtH, ?dwH⟩ ⟨?daQ, ?dlQ, ?dtQ, ?dwQ⟩ ?gT ?lT ?zT ?vT ?hcS ?lcS ?v11 ?htS ?hkS
    (case cMa => k_is)
    (case cMpg => k_is)
    (case cMhd => k_is)
    (case cMpo => k_is)
    (case cMsa => k_is)
    (case cMmk => k_is)
    (case cMkc => k_is)
    (case cPa => k_is)
    (case cPpg => k_is)
    (case cPhd => k_is)
    (case cPpo => k_is)
    (case cPsa => k_is)
    (case cPmk => k_is)
    (case cPkc => k_is)
    (case cHa => k_is)
    (case cHpg => k_is)
    (case cHhd => k_is)
    (case cHpo => k_is)
    (case cHsa => k_is)
    (case cHmk => k_is)
    (case cHkc => k_is)
    (case cLa => k_is)
    (case cLpg => k_is)
    (case cLhd => k_is)
    (case cLpo => k_is)
    (case cLsa => k_is)
    (case cLmk => k_is)
    (case cLkc => k_is)
    (case naP0 => k_is)
    (case naP1 => k_is)
    (case naP2 => k_is)
    (case naP3 => k_is)
    (case naP4 => k_is)
    (case naP5 => k_is)
    (case naP6 => k_is)
    (case naP7 => k_is)
    (case naP8 => k_is)
    (case naM0 => k_is)
    (case naM1 => k_is)
    (case naM2 => k_is)
    (case naM3 => k_is)
    (case naM4 => k_is)
    (case naH0 => k_is)
    (case naH1 => k_is)
    (case naH2 => k_is)
    (case naL => k_is)
    (case hne => decide)
    (case a_cpm => k_is)
    (case l_cpm => k_is)
    (case c_cpm => k_is)
    (case k_cpm => k_is)
    (case a_cpp => k_is)
    (case l_cpp => k_is)
    (case c_cpp => k_is)
    (case k_cpp => k_is)
    (case a_cat => k_is)
    (case l_cat => k_is)
    (case c_cat => k_is)
    (case k_cat => k_is)
    (case a_oa => k_is)
    (case l_oa => k_is)
    (case c_oa => k_is)
    (case k_oa => k_is)
    (case a_yf => k_is)
    (case l_yf => k_is)
    (case c_yf => k_is)
    (case k_yf => k_is)
    (case a_nf => k_is)
    (case l_nf => k_is)
    (case c_nf => k_is)
    (case k_nf => k_is)
    (case a_sn => k_is)
    (case l_sn => k_is)
    (case c_sn => k_is)
    (case k_sn => k_is)
    (case a_tn => k_is)
    (case l_tn => k_is)
    (case c_tn => k_is)
    (case k_tn => k_is)
    (case a_os => k_is)
    (case l_os => k_is)
    (case c_os => k_is)
    (case k_os => k_is)
    (case a_mj => k_is)
    (case l_mj => k_is)
    (case c_mj => k_is)
    (case k_mj => k_is)
    (case a_wm => k_is)
    (case l_wm => k_is)
    (case c_wm => k_is)
    (case k_wm => k_is)
    (case a_fy => k_is)
    (case l_fy => k_is)
    (case c_fy => k_is)
    (case k_fy => k_is)
    (case a_hm => k_is)
    (case l_hm => k_is)
    (case c_hm => k_is)
    (case k_hm => k_is)
    (case a_ws => k_is)
    (case l_ws => k_is)
    (case c_ws => k_is)
    (case k_ws => k_is)
    (case a_born => k_is)
    (case l_born => k_is)
    (case c_born => k_is)
    (case k_born => k_is)
    (case a_dies => k_is)
    (case l_dies => k_is)
    (case c_dies => k_is)
    (case k_dies => k_is)
    (case a_en => k_is)
    (case l_en => k_is)
    (case c_en => k_is)
    (case k_en => k_is)
    (case a_join => k_is)
    (case l_join => k_is)
    (case c_join => k_is)
    (case k_join => k_is)
    (case a_joina => k_is)
    (case l_joina => k_is)
    (case c_joina => k_is)
    (case k_joina => k_is)
    (case a_pass => k_is)
    (case l_pass => k_is)
    (case c_pass => k_is)
    (case k_pass => k_is)
    (case a_beh => k_is)
    (case l_beh => k_is)
    (case c_beh => k_is)
    (case k_beh => k_is)
    (case a_off => k_is)
    (case l_off => k_is)
    (case c_off => k_is)
    (case k_off => k_is)
    (case a_isc => k_is)
    (case l_isc => k_is)
    (case c_isc => k_is)
    (case k_isc => k_is)
    (case a_mkc => k_is)
    (case l_mkc => k_is)
    (case c_mkc => k_is)
    (case k_mkc => k_is)
    (case a_back => k_is)
    (case l_back => k_is)
    (case c_back => k_is)
    (case k_back => k_is)
    (case a_again => k_is)
    (case l_again => k_is)
    (case c_again => k_is)
    (case k_again => k_is)
    (case a_state => k_is)
    (case l_state => k_is)
    (case c_state => k_is)
    (case k_state => k_is)
    (case a_ish => k_is)
    (case l_ish => k_is)
    (case c_ish => k_is)
    (case k_ish => k_is)
    (case a_anh => k_is)
    (case l_anh => k_is)
    (case c_anh => k_is)
    (case k_anh => k_is)
    (case a_grade => k_is)
    (case l_grade => k_is)
    (case c_grade => k_is)
    (case k_grade => k_is)
    (case a_setin => k_is)
    (case l_setin => k_is)
    (case c_setin => k_is)
    (case k_setin => k_is)
    (case a_str => k_is)
    (case l_str => k_is)
    (case c_str => k_is)
    (case k_str => k_is)
    (case a_rul => k_is)
    (case l_rul => k_is)
    (case c_rul => k_is)
    (case k_rul => k_is)
    (case a_spk => k_is)
    (case l_spk => k_is)
    (case c_spk => k_is)
    (case k_spk => k_is)
    (case a_may => k_is)
    (case l_may => k_is)
    (case c_may => k_is)
    (case k_may => k_is)
    (case a_mis => k_is)
    (case l_mis => k_is)
    (case c_mis => k_is)
    (case k_mis => k_is)
    (case a_whe => k_is)
    (case l_whe => k_is)
    (case c_whe => k_is)
    (case k_whe => k_is)
    (case a_age => k_is)
    (case l_age => k_is)
    (case c_age => k_is)
    (case k_age => k_is)
    (case a_sen => k_is)
    (case l_sen => k_is)
    (case c_sen => k_is)
    (case k_sen => k_is)
    (case a_ist => k_is)
    (case l_ist => k_is)
    (case c_ist => k_is)
    (case k_ist => k_is)
    (case a_tur => k_is)
    (case l_tur => k_is)
    (case c_tur => k_is)
    (case k_tur => k_is)
    (case a_son => k_is)
    (case l_son => k_is)
    (case c_son => k_is)
    (case k_son => k_is)
    (case a_lin => k_is)
    (case l_lin => k_is)
    (case c_lin => k_is)
    (case k_lin => k_is)
    (case a_inr => k_is)
    (case l_inr => k_is)
    (case c_inr => k_is)
    (case k_inr => k_is)
    (case a_ret => k_is)
    (case l_ret => k_is)
    (case c_ret => k_is)
    (case k_ret => k_is)
    (case a_nex => k_is)
    (case l_nex => k_is)
    (case c_nex => k_is)
    (case k_nex => k_is)
    (case a_hsn => k_is)
    (case l_hsn => k_is)
    (case c_hsn => k_is)
    (case k_hsn => k_is)
    (case a_nam => k_is)
    (case l_nam => k_is)
    (case c_nam => k_is)
    (case k_nam => k_is)
    (case a_onm => k_is)
    (case l_onm => k_is)
    (case c_onm => k_is)
    (case k_onm => k_is)
    (case a_tol => k_is)
    (case l_tol => k_is)
    (case c_tol => k_is)
    (case k_tol => k_is)
    (case a_anq => k_is)
    (case l_anq => k_is)
    (case c_anq => k_is)
    (case k_anq => k_is)
    (case a_can => k_is)
    (case l_can => k_is)
    (case c_can => k_is)
    (case k_can => k_is)
    (case a_ans => k_is)
    (case l_ans => k_is)
    (case c_ans => k_is)
    (case k_ans => k_is)
    (case ma_mi => k_is)
    (case mi_mi => k_is)
    (case ml_mi => k_is)
    (case mc_mi => k_is)
    (case mk_mi => k_is)
    (case ma_pi => k_is)
    (case mi_pi => k_is)
    (case ml_pi => k_is)
    (case mc_pi => k_is)
    (case mk_pi => k_is)
    (case ma_ni => k_is)
    (case mi_ni => k_is)
    (case ml_ni => k_is)
    (case mc_ni => k_is)
    (case mk_ni => k_is)
    (case ma_nw => k_is)
    (case mi_nw => k_is)
    (case ml_nw => k_is)
    (case mc_nw => k_is)
    (case mk_nw => k_is)
    (case ma_yl => k_is)
    (case mi_yl => k_is)
    (case ml_yl => k_is)
    (case mc_yl => k_is)
    (case mk_yl => k_is)
    (case ma_no => k_is)
    (case mi_no => k_is)
    (case ml_no => k_is)
    (case mc_no => k_is)
    (case mk_no => k_is)
    (case ma_hma => k_is)
    (case mi_hma => k_is)
    (case ml_hma => k_is)
    (case mc_hma => k_is)
    (case mk_hma => k_is)
    (case ma_hg => k_is)
    (case mi_hg => k_is)
    (case ml_hg => k_is)
    (case mc_hg => k_is)
    (case mk_hg => k_is)
    (case ma_hn => k_is)
    (case mi_hn => k_is)
    (case ml_hn => k_is)
    (case mc_hn => k_is)
    (case mk_hn => k_is)
    (case ma_si => k_is)
    (case mi_si => k_is)
    (case ml_si => k_is)
    (case mc_si => k_is)
    (case mk_si => k_is)
    (case ma_go => k_is)
    (case mi_go => k_is)
    (case ml_go => k_is)
    (case mc_go => k_is)
    (case mk_go => k_is)
    (case ma_hre => k_is)
    (case mi_hre => k_is)
    (case ml_hre => k_is)
    (case mc_hre => k_is)
    (case mk_hre => k_is)
    (case ma_ao => k_is)
    (case mi_ao => k_is)
    (case ml_ao => k_is)
    (case mc_ao => k_is)
    (case mk_ao => k_is)
    (case ma_li => k_is)
    (case mi_li => k_is)
    (case ml_li => k_is)
    (case mc_li => k_is)
    (case mk_li => k_is)
    (case ma_hi => k_is)
    (case mi_hi => k_is)
    (case ml_hi => k_is)
    (case mc_hi => k_is)
    (case mk_hi => k_is)
    (case ma_ch => k_is)
    (case mi_ch => k_is)
    (case ml_ch => k_is)
    (case mc_ch => k_is)
    (case mk_ch => k_is)
    (case ma_mo => k_is)
    (case mi_mo => k_is)
    (case ml_mo => k_is)
    (case mc_mo => k_is)
    (case mk_mo => k_is)
    (case ma_le => k_is)
    (case mi_le => k_is)
    (case ml_le => k_is)
    (case mc_le => k_is)
    (case mk_le => k_is)
    (case ma_be => k_is)
    (case mi_be => k_is)
    (case ml_be => k_is)
    (case mc_be => k_is)
    (case mk_be => k_is)
    (case ma_an => k_is)
    (case mi_an => k_is)
    (case ml_an => k_is)
    (case mc_an => k_is)
    (case mk_an => k_is)
    (case cs0 => k_is)
    (case cs1 => k_is)
    (case cs2 => k_is)
    (case cs3 => k_is)
    (case cs4 => k_is)
    (case cs5 => k_is)
    (case cs6 => k_is)
    (case cs7 => k_is)
    (case cs8 => k_is)
    (case cs9 => k_is)
    (case cs10 => k_is)
    (case cs11 => k_is)
    (case cs12 => k_is)
    (case cs13 => k_is)
    (case cs14 => k_is)
    (case cs15 => k_is)
    (case cs16 => k_is)
    (case cs17 => k_is)
    (case cs18 => k_is)
    (case cs19 => k_is)
    (case b_len => k_is)
    (case b_enumerate => k_is)
    (case b_range => k_is)
    (case b_any => k_is)
    (case b_min => k_is)
    (case b_max => k_is)
    (case daC => k_is)
    (case dlC => k_is)
    (case dtC => exact .cons ⟨_, rfl⟩ rfl rfl (.cons ⟨_, rfl⟩ rfl rfl (.cons ⟨_, rfl⟩ rfl rfl (.cons ⟨_, rfl⟩ rfl rfl (.cons ⟨_, rfl⟩ rfl rfl (.cons ⟨_, rfl⟩ rfl rfl (.cons ⟨_, rfl⟩ rfl rfl .nil)))))))
    (case dwC => rfl)
    (case daH => k_is)
    (case dlH => k_is)
    (case dtH => exact .cons ⟨_, rfl⟩ rfl rfl (.cons ⟨_, rfl⟩ rfl rfl (.cons ⟨_, rfl⟩ rfl rfl .nil)))
    (case dwH => rfl)
    (case daQ => k_is)
    (case dlQ => k_is)
    (case dtQ => exact .cons ⟨_, rfl⟩ rfl rfl (.cons ⟨_, rfl⟩ rfl rfl (.cons ⟨_, rfl⟩ rfl rfl (.cons ⟨_, rfl⟩ rfl rfl (.cons ⟨_, rfl⟩ rfl rfl (.cons ⟨_, rfl⟩ rfl rfl (.cons ⟨_, rfl⟩ rfl rfl (.cons ⟨_, rfl⟩ rfl rfl (.cons ⟨_, rfl⟩ rfl rfl (.cons ⟨_, rfl⟩ rfl rfl (.cons ⟨_, rfl⟩ rfl rfl (.cons ⟨_, rfl⟩ rfl rfl (.cons ⟨_, rfl⟩ rfl rfl (.cons ⟨_, rfl⟩ rfl rfl (.cons ⟨_, rfl⟩ rfl rfl (.cons ⟨_, rfl⟩ rfl rfl (.cons ⟨_, rfl⟩ rfl rfl .nil)))))))))))))))))
    (case dwQ => rfl)
    (case gT => k_is)
    (case lT => k_is)
    (case zT => rfl)
    (case vT => exact .cons ⟨_, rfl⟩ (.cons ⟨_, rfl⟩ (.cons ⟨_, rfl⟩ (.cons ⟨_, rfl⟩ (.cons ⟨_, rfl⟩ (.cons ⟨_, rfl⟩ (.cons ⟨_, rfl⟩ (.cons ⟨_, rfl⟩ (.cons ⟨_, rfl⟩ (.cons ⟨_, rfl⟩ (.cons ⟨_, rfl⟩ (.cons ⟨_, rfl⟩ (.cons ⟨_, rfl⟩ (.cons ⟨_, rfl⟩ (.cons ⟨_, rfl⟩ (.cons ⟨_, rfl⟩ (.cons ⟨_, rfl⟩ (.cons ⟨_, rfl⟩ (.cons ⟨_, rfl⟩ (.cons ⟨_, rfl⟩ (.cons ⟨_, rfl⟩ (.cons ⟨_, rfl⟩ (.cons ⟨_, rfl⟩ (.cons ⟨_, rfl⟩ (.cons ⟨_, rfl⟩ (.cons ⟨_, rfl⟩ (.cons ⟨_, rfl⟩ (.cons ⟨_, rfl⟩ .nil))))))))))))))))))))))))))))
    (case hcS => rfl)
    (case lcS => k_is)
    (case v11 => rfl)
    (case htS => exact fun e => PySem.W.tab_of (x := "pp_speaker") TT KX rfl e)
    (case hkS => rfl)
  case S =>
    intro K cs H xs a hT hwi hask hx
    exact AG.handed K cs AG.qSp H xs a hT hwi hask hx
