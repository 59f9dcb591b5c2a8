import PyProof.Rows.All
import Wide.All
import OpenK.AllK
import Wide.FinOn
import Open.SpecLaws
import KE.OsGo
import KE.BitLaws
import KE.OsArith
import HandS.Base
import HandS.Call
import HandS.List
import HandS.Ends
import HandS.Spec
import HandS.Words
import HandS.WordsList
import HandS.Comp
import HandS.Dict
import HandS.Iter
import HandS.WordsDict
import HandS.More
import HandS.SortInts
import HandS.Lambda
import HandS.Nested
import KE.SortCalls
import PyProof.Rows.CallKwBuiltin
import PyProof.Rows.CallKw2
import HandS.EndTab
import KE.KNestM
import PyFlatLaws
import PySem.Challenge.RW_erasedall_s01_answers
set_option Elab.async false
set_option maxHeartbeats 1000000
namespace Er
open Kp187 Kp187Neutral

/-! ### A call by its words in the flat list -/
inductive W : List Int → Kp187.Call → Prop
  | start (m : Nat) : m < 2 ^ 63 → W [0, (m : Int)] (.start m)
  | give (p m u : Nat) : p < 2 ^ 63 → m < 2 ^ 63 → u < 2 ^ 63 → W [1, (p : Int), (m : Int), (u : Int)] (.give p m u)
  | make (k m : Nat) (row : List Nat) : k < 2 ^ 63 → m < 2 ^ 63 → row.length ≤ 12 → (∀ x ∈ row, x < 2 ^ 63) → (row.length ≤ 8 → ∀ x ∈ row, x < 256) →
      W ([2, (k : Int), (m : Int), (row.length : Int)] ++ row.map (fun n : Nat => (n : Int))) (.make k m (if row.length ≤ 8 then row else []) row.length)
  | use (i p : Nat) : i < 2 ^ 63 → p < 2 ^ 63 → W [3, (i : Int), (p : Int)] (.use i p)
  | back (i m : Nat) : i < 2 ^ 63 → m < 2 ^ 63 → W [4, (i : Int), (m : Int)] (.back i m)
  | person (p : Nat) : p < 2 ^ 63 → W [5, (p : Int)] (.person p)
  | days (n : Nat) : n < 2 ^ 63 → W [6, (n : Int)] (.days n)
  | of (p : Nat) : p < 2 ^ 63 → W [7, (p : Int)] (.of p)
  | why (i : Nat) : i < 2 ^ 63 → W [8, (i : Int)] (.why i)

theorem nat_of {z : Int} (h : natural z 63 = true) : ∃ n : Nat, z = (n : Int) ∧ n < 2 ^ 63 := by
  unfold natural at h
  rw [Bool.and_eq_true, decide_eq_true_eq, decide_eq_true_eq] at h
  exact ⟨z.toNat, by omega, by omega⟩
theorem row_of : ∀ {r : List Int}, r.all (fun z => natural z 63) = true → ∃ l : List Nat, r = l.map (fun n : Nat => (n : Int)) ∧ ∀ x ∈ l, x < 2 ^ 63
  | [], _ => ⟨[], rfl, fun x h => by cases h⟩
  | z :: r, h => by
    rw [List.all_cons, Bool.and_eq_true] at h
    obtain ⟨n, rfl, hn⟩ := nat_of h.1
    obtain ⟨l, rfl, hl⟩ := row_of h.2
    refine ⟨n :: l, rfl, fun x hx => ?_⟩
    cases hx with
    | head => exact hn
    | tail _ hx => exact hl x hx
theorem nats_of (l : List Nat) : nats (l.map (fun n : Nat => (n : Int))) = l := by
  unfold nats
  rw [List.map_map]
  induction l with
  | nil => rfl
  | cons a l ih => rw [List.map_cons, ih]; rfl

theorem whole_id (c : List (List Int)) : PyKp187.whole c = c := by
  unfold PyKp187.whole
  split <;> rfl
theorem wholes (cs : List (List (List Int))) : cs.map PyKp187.whole = cs := by
  induction cs with
  | nil => rfl
  | cons c cs ih => rw [List.map_cons, ih, whole_id]

/-- what is read off one asked call -/
theorem call_w {c : List (List Int)} {s : S} (a : asked1 c = true) (m : (match callOf c with | some x => may s x | none => false) = true) (b : PyInside.call PyKp187.bound c = true) :
    ∃ w x, PyFlat.put1 c = w ∧ callOf c = some x ∧ W w x ∧ may s x = true := by
  unfold asked1 at a
  split at a
  · obtain ⟨n, rfl, hn⟩ := nat_of a
    exact ⟨_, _, rfl, rfl, W.start n hn, m⟩
  · rw [Bool.and_eq_true, Bool.and_eq_true] at a
    obtain ⟨p, rfl, hp⟩ := nat_of a.1.1
    obtain ⟨q, rfl, hq⟩ := nat_of a.1.2
    obtain ⟨u, rfl, hu⟩ := nat_of a.2
    exact ⟨_, _, rfl, rfl, W.give p q u hp hq hu, m⟩
  · rw [Bool.and_eq_true, Bool.and_eq_true] at a
    obtain ⟨p, rfl, hp⟩ := nat_of a.1.1
    obtain ⟨q, rfl, hq⟩ := nat_of a.1.2
    obtain ⟨l, rfl, hl⟩ := row_of a.2
    have h12 : l.length ≤ 12 := by
      have b' : (PyInside.each [(0, 9223372036854775807), (0, 9223372036854775807)] [(p : Int), (q : Int)] && PyInside.lists [(0, 9223372036854775807, 0, 12)] [l.map (fun n : Nat => (n : Int))]) = true := b
      rw [Bool.and_eq_true] at b'
      have b2 := b'.2
      unfold PyInside.lists at b2
      simp only [Bool.and_eq_true, decide_eq_true_eq, List.length_map] at b2
      exact b2.1.1.2
    have e : callOf [[2, (p : Int), (q : Int)], l.map (fun n : Nat => (n : Int))] = some (.make p q (if l.length ≤ 8 then l else []) l.length) := by
      show some (Kp187.Call.make p q (if (nats (l.map (fun n : Nat => (n : Int)))).length ≤ 8 then nats (l.map (fun n : Nat => (n : Int))) else []) (nats (l.map (fun n : Nat => (n : Int)))).length) = _
      rw [nats_of]
    rw [e] at m
    have m' : may s (.make p q (if l.length ≤ 8 then l else []) l.length) = true := m
    refine ⟨_, _, rfl, e, ?_, m'⟩
    have pre : l.length ≤ 8 → ∀ x ∈ l, x < 256 := fun h8 => by
      unfold may at m'
      rw [Bool.and_eq_true] at m'
      have h2 := @of_decide_eq_true _ (preD _) m'.2
      have h3 : ((if l.length ≤ 8 then l else []).length = if l.length ≤ 8 then l.length else 0) ∧ ∀ x, x ∈ (if l.length ≤ 8 then l else []) → x < 256 := h2
      rw [if_pos h8] at h3
      exact h3.2
    have w := W.make p q l hp hq h12 hl pre
    show W (([2, (p : Int), (q : Int)] : List Int) ++ ((((l.map (fun n : Nat => (n : Int))).length : Nat) : Int) :: l.map (fun n : Nat => (n : Int)) ++ [])) _
    rw [List.append_nil, List.length_map]
    exact w
  · rw [Bool.and_eq_true] at a
    obtain ⟨p, rfl, hp⟩ := nat_of a.1
    obtain ⟨q, rfl, hq⟩ := nat_of a.2
    exact ⟨_, _, rfl, rfl, W.use p q hp hq, m⟩
  · rw [Bool.and_eq_true] at a
    obtain ⟨p, rfl, hp⟩ := nat_of a.1
    obtain ⟨q, rfl, hq⟩ := nat_of a.2
    exact ⟨_, _, rfl, rfl, W.back p q hp hq, m⟩
  · obtain ⟨n, rfl, hn⟩ := nat_of a
    exact ⟨_, _, rfl, rfl, W.person n hn, m⟩
  · obtain ⟨n, rfl, hn⟩ := nat_of a
    exact ⟨_, _, rfl, rfl, W.days n hn, m⟩
  · obtain ⟨n, rfl, hn⟩ := nat_of a
    exact ⟨_, _, rfl, rfl, W.of n hn, m⟩
  · obtain ⟨n, rfl, hn⟩ := nat_of a
    exact ⟨_, _, rfl, rfl, W.why n hn, m⟩
  · cases a

/-! ### The object before and behind its first start: one state -/
def st (s : S) : Abs := s.getD dummy
theorem does_is {s : S} {x : Kp187.Call} (h : may s x = true) : (does s x).2 = (act (st s) x).2 ∧ st (does s x).1 = (act (st s) x).1 := by
  cases s with
  | some a => exact ⟨rfl, rfl⟩
  | none =>
    cases x with
    | start m =>
      show (act dummy (.start m)).2 = (act dummy (.start m)).2 ∧ (if began (act dummy (.start m)).2 then some (act dummy (.start m)).1 else none).getD dummy = (act dummy (.start m)).1
      refine ⟨rfl, ?_⟩
      by_cases c : 2 ≤ m ∧ m ≤ 64
      · have e : act dummy (.start m) = (begun m, .num 0) := if_pos c
        rw [e]; rfl
      · have e : act dummy (.start m) = (dummy, .num (-22)) := if_neg c
        rw [e]; rfl
    | _ => cases h

/-- one answer, with how many numbers it has ahead -/
def tell (a : Ans) : List Int := ((wrKp187_Ans a).length : Int) :: wrKp187_Ans a
theorem tell_len (a : Ans) : (tell a).length ≤ 6 := by
  cases a with
  | num v => show (3 : Nat) ≤ 6; omega
  | told v a b c => show (6 : Nat) ≤ 6; omega

/-- **Where the walk over the calls stands**: behind pre, which is b long; the state s; out is told so far. -/
structure Here (ns : List Int) (b : Nat) (a : Abs) (out : List Int) : Prop where
  ex : ∃ (pre : List Int) (cs : List (List (List Int))) (s : S), ns = pre ++ PyFlat.put cs ∧ b = pre.length ∧ a = st s ∧ askedFrom s cs = true ∧ PyInside.calls PyKp187.bound cs = true ∧
    out ++ PyFlat.told (PyFlat.played step s cs) = PyKp187.answers ns ∧ out.length + 6 * cs.length ≤ 18000 ∧ (∀ c ∈ cs, PyFlat.okCall PyKp187.shape c)

theorem here_start {ns : List Int} (h : PyKp187.answers_asked ns = true) : Here ns 0 dummy [] := by
  unfold PyKp187.answers_asked at h
  cases e : PyFlat.calls PyKp187.shape ns.length ns with
  | none => rw [e] at h; cases h
  | some raw =>
    rw [e] at h
    have h' : (!raw.isEmpty && PyFlat.atMost 3000 raw && PyInside.calls PyKp187.bound raw && Kp187Neutral.asked (raw.map PyKp187.whole) && PyFlat.short 10000000 (PyKp187.answers ns)) = true := h
    rw [wholes] at h'
    simp only [Bool.and_eq_true] at h'
    obtain ⟨⟨⟨⟨h1, h2⟩, h3⟩, h4⟩, h5⟩ := h'
    have a2 := PyFlat.put_calls _ _ _ e
    unfold asked at h4
    simp only [Bool.and_eq_true] at h4
    have l : raw.length ≤ 3000 := of_decide_eq_true h2
    refine ⟨[], raw, start, a2.1, rfl, rfl, h4.2.2, h3, ?_, ?_, a2.2⟩
    · unfold PyKp187.answers PyKp187.calls
      rw [e]
      show _ = PyFlat.told (PyFlat.played step start (raw.map PyKp187.whole))
      rw [wholes]
      rfl
    · show 0 + 6 * raw.length ≤ 18000
      omega

theorem here_end {ns : List Int} {b : Nat} {a : Abs} {out : List Int} (h : Here ns b a out) (hb : ns.length ≤ b) : out = PyKp187.answers ns := by
  obtain ⟨pre, cs, s, e, eb, _, _, _, eo, _, ok⟩ := h.ex
  cases cs with
  | nil =>
    rw [← eo]
    show out = out ++ []
    rw [List.append_nil]
  | cons c cs =>
    exfalso
    obtain ⟨p, r, xs, ec, _⟩ := ok c (List.Mem.head _)
    have hl := congrArg List.length e
    subst ec
    rw [List.length_append] at hl
    have : (PyFlat.put (((p :: r) :: xs) :: cs)).length = (r ++ PyFlat.putRows xs ++ PyFlat.put cs).length + 1 := rfl
    omega
theorem here_len {ns : List Int} {b : Nat} {a : Abs} {out : List Int} (h : Here ns b a out) : b ≤ ns.length ∧ out.length ≤ 18000 := by
  obtain ⟨pre, cs, s, e, eb, _, _, _, eo, l, ok⟩ := h.ex
  have hl := congrArg List.length e
  rw [List.length_append] at hl
  omega

/-- **One call more.** -/
theorem here_step {ns : List Int} {b : Nat} {a : Abs} {out : List Int} (h : Here ns b a out) (hb : b < ns.length) :
    ∃ w x, W w x ∧ ns.drop b = w ++ ns.drop (b + w.length) ∧ b + w.length ≤ ns.length ∧ out.length + 6 ≤ 18000 ∧ Here ns (b + w.length) (act a x).1 (out ++ tell (act a x).2) := by
  obtain ⟨pre, cs, s, e, eb, ea, as_, is_, eo, l, ok⟩ := h.ex
  cases cs with
  | nil =>
    exfalso
    have hl := congrArg List.length e
    rw [List.length_append] at hl
    have : (PyFlat.put []).length = 0 := rfl
    omega
  | cons c cs =>
    have as2 : (asked1 c && (match callOf c with
      | some x => may s x
      | none => false) && askedFrom (step s c).1 cs) = true := as_
    rw [Bool.and_eq_true, Bool.and_eq_true] at as2
    have is2 : (PyInside.call PyKp187.bound c && cs.all (PyInside.call PyKp187.bound)) = true := is_
    rw [Bool.and_eq_true] at is2
    obtain ⟨w, x, ew, ex, hw, hm⟩ := call_w as2.1.1 as2.1.2 is2.1
    have ed := does_is hm
    have es : step s c = ((does s x).1, wrKp187_Ans (does s x).2) := by
      unfold step
      rw [ex]
    have e1 : ns = pre ++ (w ++ PyFlat.put cs) := by
      rw [e, ← ew]
      rfl
    have lw : b + w.length = (pre ++ w).length := by rw [List.length_append, eb]
    have d1 : ns.drop b = w ++ PyFlat.put cs := by
      rw [e1, eb, List.drop_left]
    have d2 : ns.drop (b + w.length) = PyFlat.put cs := by
      rw [lw, e1, ← List.append_assoc, List.drop_left]
    refine ⟨w, x, hw, by rw [d1, d2], ?_, ?_, ⟨pre ++ w, cs, (does s x).1, by rw [e1, List.append_assoc], lw, ?_, ?_, is2.2, ?_, ?_, fun d hd => ok d (List.Mem.tail _ hd)⟩⟩
    · rw [lw, e1, ← List.append_assoc, List.length_append (as := pre ++ w)]
      omega
    · rw [List.length_cons] at l
      omega
    · rw [ea]
      exact ed.2.symm
    · have := as2.2
      rw [es] at this
      exact this
    · rw [← eo, List.append_assoc]
      congr 1
      show tell (act a x).2 ++ PyFlat.told (PyFlat.played step (does s x).1 cs) = ((((step s c).2.length : Nat) : Int) :: (step s c).2) ++ PyFlat.told (PyFlat.played step (step s c).1 cs)
      rw [es, ea, ← ed.1]
      rfl
    · rw [List.length_append]
      have := tell_len (act a x).2
      rw [List.length_cons] at l
      omega
theorem and_xor_sum : ∀ (m n : Nat), (m &&& n) + (m ^^^ (m &&& n)) = m := by
  intro m
  induction m using Nat.strongRecOn with
  | _ m ih =>
    intro n
    by_cases h0 : m = 0
    · subst h0; simp
    · have i := ih (m / 2) (by omega) (n / 2)
      have d1 : (m &&& n) / 2 = m / 2 &&& n / 2 := Nat.and_div_two
      have d2 : (m ^^^ (m &&& n)) / 2 = m / 2 ^^^ (m &&& n) / 2 := Nat.xor_div_two
      have q1 := @Nat.and_mod_two_eq_one m n
      have q2 := @Nat.xor_mod_two_eq_one m (m &&& n)
      rw [d1] at d2
      omega
theorem and_full {m : Nat} (hm : m ≤ 65535) : m &&& 65535 = m := by
  have := Nat.and_two_pow_sub_one_eq_mod m 16
  rw [show (65535 : Nat) = 2 ^ 16 - 1 from rfl, this]
  exact Nat.mod_eq_of_lt (by omega)
theorem without_eq {m n : Nat} (hm : m ≤ 65535) : without m n + (m &&& n) = m := by
  unfold without
  rw [Nat.and_xor_distrib_left, and_full hm]
  have := and_xor_sum m n
  omega
theorem without_le {m n : Nat} (hm : m ≤ 65535) : without m n ≤ m := by
  have := without_eq (n := n) hm
  omega
end Er
set_option Elab.async false
set_option maxHeartbeats 1000000
set_option linter.unusedVariables false
set_option autoImplicit false
namespace Er
open Kp187 Kp187Neutral
/-! ### What holds of every state -/
structure ItemOk (a : Abs) (i : Nat) (x : Item) : Prop where
  pur : x.purposes ≤ 65535
  ins : ∀ g ∈ x.inside, g ≤ i ∧ ∃ y p u, a.items[g]? = some y ∧ y.kind = .given p u
  giv : ∀ p u, x.kind = .given p u → p < 64 ∧ u ≤ 100000 ∧ x.inside = [i]
  rise : x.inside.Pairwise (· < ·)
  live : x.gone = none → ∀ g ∈ x.inside, ∃ y p u, a.items[g]? = some y ∧ y.kind = .given p u ∧ a.today ≤ u ∧ y.gone = none ∧ y.purposes &&& x.purposes = x.purposes
  some1 : x.gone = none → 0 < x.purposes
structure Good (a : Abs) : Prop where
  len : a.items.length ≤ 128
  day : a.today ≤ 100000
  many : 2 ≤ a.many ∧ a.many ≤ 64
  it : ∀ (i : Nat) (x : Item), a.items[i]? = some x → ItemOk a i x

theorem isSet_iff {m : Nat} : isSet m = true ↔ 1 ≤ m ∧ m ≤ 65535 := by
  unfold isSet
  rw [Bool.and_eq_true, decide_eq_true_eq, decide_eq_true_eq]
theorem good_begun {m : Nat} (h : 2 ≤ m ∧ m ≤ 64) : Good (begun m) :=
  ⟨Nat.zero_le _, Nat.zero_le _, h, fun i x e => by cases i <;> cases e⟩
theorem good_dummy : Good dummy := good_begun (by omega)

theorem mem_union {a : Abs} {l : List Nat} {g : Nat} : g ∈ union a l ↔ g < a.items.length ∧ ∃ i ∈ l, g ∈ insideOf a i := by
  unfold union
  rw [List.mem_filter, List.mem_range, List.any_eq_true]
  simp
theorem insideOf_some {a : Abs} {i : Nat} {x : Item} (h : a.items[i]? = some x) : insideOf a i = x.inside := by
  unfold insideOf item
  rw [h]
theorem insideOf_mem {a : Abs} {i g : Nat} (h : g ∈ insideOf a i) : ∃ x, a.items[i]? = some x ∧ g ∈ x.inside := by
  unfold insideOf item at h
  cases e : a.items[i]? with
  | none => rw [e] at h; cases h
  | some x => rw [e] at h; exact ⟨x, rfl, h⟩
theorem union_rise (a : Abs) (l : List Nat) : (union a l).Pairwise (· < ·) := List.pairwise_lt_range.filter _
theorem there_some {a : Abs} {i : Nat} (h : there a i = true) : ∃ x, a.items[i]? = some x ∧ x.gone = none := by
  unfold there item at h
  cases e : a.items[i]? with
  | none => rw [e] at h; cases h
  | some x =>
    rw [e] at h
    refine ⟨x, rfl, ?_⟩
    cases q : x.gone with
    | none => rfl
    | some g =>
      have h' : x.gone.isNone = true := h
      rw [q] at h'
      cases h'

/-- one item more -/
theorem good_add {a : Abs} {x : Item} (G : Good a) (h : a.items.length < 128) (ok : ItemOk { a with items := a.items ++ [x] } a.items.length x) : Good { a with items := a.items ++ [x] } := by
  refine ⟨?_, G.day, G.many, fun i y e => ?_⟩
  · show (a.items ++ [x]).length ≤ 128
    rw [List.length_append]
    show a.items.length + 1 ≤ 128
    omega
  · have e' : (a.items ++ [x])[i]? = some y := e
    by_cases hi : i < a.items.length
    · rw [List.getElem?_append_left hi] at e'
      have o := G.it i y e'
      have up : ∀ {g : Nat} {z : Item}, a.items[g]? = some z → (a.items ++ [x])[g]? = some z := fun {g z} q => by
        rw [List.getElem?_append_left (List.getElem?_eq_some_iff.mp q).1]
        exact q
      refine ⟨o.pur, fun g hg => ?_, o.giv, o.rise, fun hl g hg => ?_, o.some1⟩
      · obtain ⟨h1, z, p, u, h2, h3⟩ := o.ins g hg
        exact ⟨h1, z, p, u, up h2, h3⟩
      · obtain ⟨z, p, u, h2, h3⟩ := o.live hl g hg
        exact ⟨z, p, u, up h2, h3⟩
    · have hl := (List.getElem?_eq_some_iff.mp e').1
      rw [List.length_append] at hl
      have ei : i = a.items.length := by
        have : ([x] : List Item).length = 1 := rfl
        omega
      subst ei
      rw [List.getElem?_append_right (Nat.le_refl _), Nat.sub_self] at e'
      have : x = y := Option.some.inj e'
      subst this
      exact ok

theorem and_trans {y x m : Nat} (h1 : y &&& x = x) (h2 : x &&& m = m) : y &&& m = m := by
  rw [← h2, ← Nat.and_assoc, h1]

theorem good_give {a : Abs} (G : Good a) (p m u : Nat) : Good (act a (.give p m u)).1 := by
  show Good (if PEOPLE ≤ p ∨ isSet m = false ∨ LAST < u ∨ u < a.today then (a, Ans.num (-22)) else if ITEMS ≤ a.items.length then (a, .num (-28)) else ({ a with items := a.items ++ [⟨.given p u, m, [a.items.length], none⟩] }, .num (a.items.length : Nat))).1
  by_cases c : PEOPLE ≤ p ∨ isSet m = false ∨ LAST < u ∨ u < a.today
  · rw [if_pos c]; exact G
  · rw [if_neg c]
    by_cases c2 : ITEMS ≤ a.items.length
    · rw [if_pos c2]; exact G
    · rw [if_neg c2]
      have hm : isSet m = true := by
        cases q : isSet m with
        | true => rfl
        | false => exact absurd (.inr (.inl q)) c
      have hm2 := isSet_iff.mp hm
      have c' : ¬ (64 ≤ p ∨ isSet m = false ∨ 100000 < u ∨ u < a.today) := c
      rw [hm] at c'
      simp at c'
      have c2' : ¬ 128 ≤ a.items.length := c2
      have at1 : (a.items ++ [(⟨.given p u, m, [a.items.length], none⟩ : Item)])[a.items.length]? = some ⟨.given p u, m, [a.items.length], none⟩ := by
        rw [List.getElem?_append_right (Nat.le_refl _), Nat.sub_self]; rfl
      refine good_add G (by omega) ⟨hm2.2, fun g hg => ?_, fun p' u' e => ?_, by simp, fun _ g hg => ?_, fun _ => hm2.1⟩
      · rw [List.mem_singleton] at hg
        subst hg
        exact ⟨Nat.le_refl _, _, p, u, at1, rfl⟩
      · have : Kind.given p u = Kind.given p' u' := e
        cases this
        exact ⟨by omega, by omega, rfl⟩
      · rw [List.mem_singleton] at hg
        subst hg
        exact ⟨_, p, u, at1, rfl, by show a.today ≤ u; omega, rfl, by show m &&& m = m; exact Nat.and_self m⟩
theorem insideNew_sub {a : Abs} {c : Bool} {l : List Nat} {g : Nat} (h : g ∈ insideNew a c l) : g ∈ union a l := by
  unfold insideNew at h
  simp only at h
  split at h
  · cases h
  · exact h
theorem insideNew_rise (a : Abs) (c : Bool) (l : List Nat) : (insideNew a c l).Pairwise (· < ·) := by
  unfold insideNew
  simp only
  split
  · exact List.Pairwise.nil
  · exact union_rise a l
theorem good_make {a : Abs} (G : Good a) (k m : Nat) (l : List Nat) (n : Nat) : Good (act a (.make k m l n)).1 := by
  show Good (if 1 < k ∨ isSet m = false ∨ n < 1 ∨ 8 < n ∨ distinct l = false then (a, Ans.num (-22)) else if l.all (there a) = false then (a, .num (-2))
    else if l.all (fun i => match item a i with
      | some x => has x m
      | none => false) = false then (a, .num (-13)) else if ITEMS ≤ a.items.length then (a, .num (-28))
    else ({ a with items := a.items ++ [⟨.made (k == 1) l, m, insideNew a (k == 1) l, none⟩] }, .num (a.items.length : Nat))).1
  by_cases c1 : 1 < k ∨ isSet m = false ∨ n < 1 ∨ 8 < n ∨ distinct l = false
  · rw [if_pos c1]; exact G
  rw [if_neg c1]
  by_cases c2 : l.all (there a) = false
  · rw [if_pos c2]; exact G
  rw [if_neg c2]
  by_cases c3 : l.all (fun i => match item a i with
      | some x => has x m
      | none => false) = false
  · rw [if_pos c3]; exact G
  rw [if_neg c3]
  by_cases c4 : ITEMS ≤ a.items.length
  · rw [if_pos c4]; exact G
  rw [if_neg c4]
  have hm : isSet m = true := by
    cases q : isSet m with
    | true => rfl
    | false => exact absurd (.inr (.inl q)) c1
  have hm2 := isSet_iff.mp hm
  rw [Bool.not_eq_false, List.all_eq_true] at c2 c3
  have c4' : ¬ 128 ≤ a.items.length := c4
  have up : ∀ {g : Nat} {z : Item}, a.items[g]? = some z → (a.items ++ [(⟨.made (k == 1) l, m, insideNew a (k == 1) l, none⟩ : Item)])[g]? = some z := fun {g z} q => by
    rw [List.getElem?_append_left (List.getElem?_eq_some_iff.mp q).1]
    exact q
  refine good_add G (by omega) ⟨hm2.2, fun g hg => ?_, fun p' u' e => ?_, insideNew_rise a _ l, fun _ g hg => ?_, fun _ => hm2.1⟩
  · obtain ⟨h1, i, hi, hgi⟩ := mem_union.mp (insideNew_sub hg)
    obtain ⟨x, hx, hgx⟩ := insideOf_mem hgi
    obtain ⟨_, y, p, u, h2, h3⟩ := (G.it i x hx).ins g hgx
    exact ⟨Nat.le_of_lt h1, y, p, u, up h2, h3⟩
  · have : Kind.made (k == 1) l = Kind.given p' u' := e
    cases this
  · obtain ⟨h1, i, hi, hgi⟩ := mem_union.mp (insideNew_sub hg)
    obtain ⟨x, hx, hgx⟩ := insideOf_mem hgi
    obtain ⟨x', hx', hl⟩ := there_some (c2 i hi)
    have : x = x' := Option.some.inj (hx.symm.trans hx')
    subst this
    obtain ⟨y, p, u, h2, h3, h4, h5, h6⟩ := (G.it i x hx).live hl g hgx
    refine ⟨y, p, u, up h2, h3, h4, h5, and_trans h6 ?_⟩
    have c3' := c3 i hi
    unfold item at c3'
    rw [hx] at c3'
    exact eq_of_beq (show (x.purposes &&& m == m) = true from c3')

theorem and_without {y x b : Nat} (h : y &&& x = x) : without y b &&& without x b = without x b := by
  unfold without
  apply Nat.eq_of_testBit_eq
  intro i
  have e := congrArg (fun z => z.testBit i) h
  simp only [Nat.testBit_and] at e ⊢
  generalize (65535 ^^^ b).testBit i = t
  cases hy : y.testBit i <;> cases hx : x.testBit i <;> cases t <;> simp_all
theorem good_back {a : Abs} (G : Good a) (g0 b : Nat) (hg0 : ∀ x, a.items[g0]? = some x → ∃ p u, x.kind = .given p u) : Good (takeBack a g0 b) := by
  have atj : ∀ {j : Nat} {y : Item}, (takeBack a g0 b).items[j]? = some y → ∃ x, a.items[j]? = some x ∧ y = if x.gone.isSome || !x.inside.contains g0 then x else { x with purposes := without x.purposes b, gone := if without x.purposes b = 0 then some ⟨1, g0, a.today⟩ else none } := fun {j y} e => by
    have e' : (a.items.map fun x => if x.gone.isSome || !x.inside.contains g0 then x else { x with purposes := without x.purposes b, gone := if without x.purposes b = 0 then some ⟨1, g0, a.today⟩ else none })[j]? = some y := e
    rw [List.getElem?_map] at e'
    cases q : a.items[j]? with
    | none => rw [q] at e'; cases e'
    | some x => rw [q] at e'; exact ⟨x, rfl, (Option.some.inj e').symm⟩
  have ofj : ∀ {j : Nat} {x : Item}, a.items[j]? = some x → (takeBack a g0 b).items[j]? = some (if x.gone.isSome || !x.inside.contains g0 then x else { x with purposes := without x.purposes b, gone := if without x.purposes b = 0 then some ⟨1, g0, a.today⟩ else none }) := fun {j x} e => by
    show (a.items.map _)[j]? = _
    rw [List.getElem?_map, e]
    rfl
  have kindE : ∀ x : Item, (if x.gone.isSome || !x.inside.contains g0 then x else { x with purposes := without x.purposes b, gone := if without x.purposes b = 0 then some ⟨1, g0, a.today⟩ else none }).kind = x.kind := fun x => by split <;> rfl
  have insE : ∀ x : Item, (if x.gone.isSome || !x.inside.contains g0 then x else { x with purposes := without x.purposes b, gone := if without x.purposes b = 0 then some ⟨1, g0, a.today⟩ else none }).inside = x.inside := fun x => by split <;> rfl
  refine ⟨by show (a.items.map _).length ≤ 128; rw [List.length_map]; exact G.len, G.day, G.many, fun j y e => ?_⟩
  obtain ⟨x, hx, ey⟩ := atj e
  have o := G.it j x hx
  have ki : y.kind = x.kind := by rw [ey]; exact kindE x
  have ii : y.inside = x.inside := by rw [ey]; exact insE x
  refine ⟨?_, fun g hg => ?_, fun p u q => ?_, by rw [ii]; exact o.rise, fun hl g hg => ?_, fun hl => ?_⟩
  · rw [ey]
    split
    · exact o.pur
    · exact Nat.le_trans (without_le o.pur) o.pur
  · rw [ii] at hg
    obtain ⟨h1, z, p, u, h2, h3⟩ := o.ins g hg
    exact ⟨h1, _, p, u, ofj h2, by rw [kindE]; exact h3⟩
  · rw [ki] at q
    rw [ii]
    exact o.giv p u q
  · rw [ii] at hg
    have lx : x.gone = none := by
      rw [ey] at hl
      by_cases c : (x.gone.isSome || !x.inside.contains g0) = true
      · rw [if_pos c] at hl; exact hl
      · rw [Bool.or_eq_true, not_or] at c
        cases q : x.gone with
        | none => rfl
        | some w => rw [q] at c; exact absurd rfl c.1
    obtain ⟨z, p, u, h2, h3, h4, h5, h6⟩ := o.live lx g hg
    refine ⟨_, p, u, ofj h2, by rw [kindE]; exact h3, h4, ?_⟩
    by_cases cg : g = g0
    · subst cg
      have zin := ((G.it g z h2).giv p u h3).2.2
      have cz : ¬ (z.gone.isSome || !z.inside.contains g) = true := by
        rw [h5, zin]
        simp
      have cx : ¬ (x.gone.isSome || !x.inside.contains g) = true := by
        rw [lx]
        simp
        exact hg
      rw [if_neg cz]
      rw [ey, if_neg cx] at hl ⊢
      have hl' : (if without x.purposes b = 0 then some (⟨1, g, a.today⟩ : Gone) else none) = none := hl
      have n0 : ¬ without x.purposes b = 0 := fun q => by rw [if_pos q] at hl'; cases hl'
      have aw := and_without (b := b) h6
      refine ⟨?_, aw⟩
      show (if without z.purposes b = 0 then some (⟨1, g, a.today⟩ : Gone) else none) = none
      rw [if_neg]
      intro q
      rw [q, Nat.zero_and] at aw
      exact n0 aw.symm
    · have zin := ((G.it g z h2).giv p u h3).2.2
      have cz : (z.gone.isSome || !z.inside.contains g0) = true := by
        rw [h5, zin]
        simp
        exact fun q => cg q.symm
      rw [if_pos cz]
      refine ⟨h5, ?_⟩
      rw [ey]
      split
      · exact h6
      · show z.purposes &&& without x.purposes b = without x.purposes b
        unfold without
        rw [← Nat.and_assoc, h6]
  · rw [ey] at hl ⊢
    by_cases c : (x.gone.isSome || !x.inside.contains g0) = true
    · rw [if_pos c] at hl ⊢; exact o.some1 hl
    · rw [if_neg c] at hl ⊢
      have hl' : (if without x.purposes b = 0 then some (⟨1, g0, a.today⟩ : Gone) else none) = none := hl
      show 0 < without x.purposes b
      by_cases q : without x.purposes b = 0
      · rw [if_pos q] at hl'; cases hl'
      · omega
theorem personOf_some {a : Abs} {i p : Nat} (h : personOf a i = some p) : ∃ x u, a.items[i]? = some x ∧ x.kind = .given p u := by
  unfold personOf item at h
  cases e : a.items[i]? with
  | none => rw [e] at h; cases h
  | some x =>
    rw [e] at h
    have h' : (match x.kind with | .given p _ => some p | .made _ _ => none) = some p := h
    cases q : x.kind with
    | given p' u =>
      rw [q] at h'
      have : p' = p := Option.some.inj h'
      subst this
      exact ⟨x, u, rfl, q⟩
    | made c l =>
      rw [q] at h'
      cases h'
/-- what erase does to one item -/
def er1 (t why : Nat) (l : List Nat) (x : Item) : Item := if x.gone.isSome then x else match x.inside.find? l.contains with
  | some g => { x with gone := some ⟨why, g, t⟩ }
  | none => x
theorem erase_items (a : Abs) (why : Nat) (l : List Nat) : (erase a why l).items = a.items.map (er1 a.today why l) := rfl
theorem er1_kind (t why : Nat) (l : List Nat) (x : Item) : (er1 t why l x).kind = x.kind ∧ (er1 t why l x).inside = x.inside ∧ (er1 t why l x).purposes = x.purposes := by
  unfold er1
  split
  · exact ⟨rfl, rfl, rfl⟩
  · split <;> exact ⟨rfl, rfl, rfl⟩
theorem er1_live {t why : Nat} {l : List Nat} {x : Item} (h : (er1 t why l x).gone = none) : x.gone = none ∧ ∀ g ∈ x.inside, g ∉ l := by
  unfold er1 at h
  split at h
  · rename_i c
    rw [h] at c
    cases c
  · rename_i c
    have gx : x.gone = none := by
      cases q : x.gone with
      | none => rfl
      | some w => rw [q] at c; exact absurd rfl c
    split at h
    · cases h
    · rename_i e
      refine ⟨gx, fun g hg hl => ?_⟩
      have := List.find?_eq_none.mp e g hg
      exact this (List.contains_iff_mem.mpr hl)
theorem er1_stays {t why : Nat} {l : List Nat} {x : Item} (h : x.gone = none) (hl : ∀ g ∈ x.inside, g ∉ l) : er1 t why l x = x := by
  unfold er1
  rw [h]
  have : x.inside.find? l.contains = none := List.find?_eq_none.mpr fun g hg q => hl g hg (List.contains_iff_mem.mp q)
  rw [this]
  rfl
theorem good_erase {a : Abs} (G : Good a) (t why : Nat) (l : List Nat) (ht : t ≤ 100000)
    (h : ∀ (g : Nat) (y : Item) (p u : Nat), a.items[g]? = some y → y.kind = .given p u → a.today ≤ u → g ∉ l → t ≤ u) : Good (erase { a with today := t } why l) := by
  have ofj : ∀ {j : Nat} {x : Item}, a.items[j]? = some x → (erase { a with today := t } why l).items[j]? = some (er1 t why l x) := fun {j x} e => by
    show (a.items.map (er1 t why l))[j]? = _
    rw [List.getElem?_map, e]
    rfl
  refine ⟨by show (a.items.map (er1 t why l)).length ≤ 128; rw [List.length_map]; exact G.len, ht, G.many, fun j y e => ?_⟩
  obtain ⟨x, hx, ey⟩ : ∃ x, a.items[j]? = some x ∧ y = er1 t why l x := by
    have e' : (a.items.map (er1 t why l))[j]? = some y := e
    rw [List.getElem?_map] at e'
    cases q : a.items[j]? with
    | none => rw [q] at e'; cases e'
    | some x => rw [q] at e'; exact ⟨x, rfl, (Option.some.inj e').symm⟩
  subst ey
  have o := G.it j x hx
  obtain ⟨k1, k2, k3⟩ := er1_kind t why l x
  refine ⟨by rw [k3]; exact o.pur, fun g hg => ?_, fun p u q => ?_, by rw [k2]; exact o.rise, fun hl g hg => ?_, fun hl => ?_⟩
  · rw [k2] at hg
    obtain ⟨h1, z, p, u, h2, h3⟩ := o.ins g hg
    exact ⟨h1, _, p, u, ofj h2, by rw [(er1_kind t why l z).1]; exact h3⟩
  · rw [k1] at q
    rw [k2]
    exact o.giv p u q
  · rw [k2] at hg
    obtain ⟨lx, nl⟩ := er1_live hl
    obtain ⟨z, p, u, h2, h3, h4, h5, h6⟩ := o.live lx g hg
    have zin := ((G.it g z h2).giv p u h3).2.2
    have ez : er1 t why l z = z := er1_stays h5 fun g' hg' => by
      rw [zin, List.mem_singleton] at hg'
      rw [hg']
      exact nl g hg
    refine ⟨z, p, u, by rw [ofj h2, ez], h3, h g z p u h2 h3 h4 (nl g hg), h5, ?_⟩
    rw [k3]
    exact h6
  · rw [k3]
    exact o.some1 (er1_live hl).1
theorem good_person {a : Abs} (G : Good a) (why : Nat) (l : List Nat) : Good (erase a why l) := good_erase G a.today why l G.day fun _ _ _ _ _ _ h _ => h
theorem mem_over {a : Abs} {g : Nat} {y : Item} {p u : Nat} (h1 : a.items[g]? = some y) (h2 : y.kind = .given p u) (h3 : u < a.today) : g ∈ overNow a := by
  unfold overNow
  rw [List.mem_filter, List.mem_range]
  refine ⟨(List.getElem?_eq_some_iff.mp h1).1, ?_⟩
  unfold item
  rw [h1]
  show (match y.kind with | .given _ u => decide (u < a.today) | .made _ _ => false) = true
  rw [h2]
  exact decide_eq_true h3
theorem good_day {a : Abs} (G : Good a) (h : a.today < 100000) : Good (day a) := by
  refine good_erase G (a.today + 1) 3 (overNow { a with today := a.today + 1 }) (by omega) fun g y p u h1 h2 _ nl => ?_
  refine Nat.le_of_not_lt fun q => nl ?_
  exact mem_over (a := { a with today := a.today + 1 }) h1 h2 (by show u < a.today + 1; omega)
theorem day_today (a : Abs) : (day a).today = a.today + 1 := rfl
theorem good_days : ∀ (n : Nat) {a : Abs}, Good a → a.today + n ≤ 100000 → Good (Kp187.days n a)
  | 0, a, G, _ => G
  | n + 1, a, G, h => good_days n (good_day G (by omega)) (by rw [day_today]; omega)
/-- **every state is good** -/
theorem good_act {a : Abs} (G : Good a) (c : Kp187.Call) : Good (act a c).1 := by
  cases c with
  | start m =>
    show Good (if 2 ≤ m ∧ m ≤ 64 then (begun m, Ans.num 0) else (a, .num (-22))).1
    by_cases c : 2 ≤ m ∧ m ≤ 64
    · rw [if_pos c]; exact good_begun c
    · rw [if_neg c]; exact G
  | give p m u => exact good_give G p m u
  | make k m l n => exact good_make G k m l n
  | use i p => exact G
  | back i m =>
    show Good (if there a i = false then (a, Ans.num (-2)) else if (personOf a i).isNone ∨ isSet m = false then (a, .num (-22)) else (takeBack a i m, .num ((thereCount a - thereCount (takeBack a i m) : Nat) : Int))).1
    by_cases c : there a i = false
    · rw [if_pos c]; exact G
    · rw [if_neg c]
      by_cases c2 : (personOf a i).isNone ∨ isSet m = false
      · rw [if_pos c2]; exact G
      · rw [if_neg c2]
        refine good_back G i m fun x hx => ?_
        rw [not_or] at c2
        cases q : personOf a i with
        | none => rw [q] at c2; exact absurd rfl c2.1
        | some p =>
          obtain ⟨x', u, e1, e2⟩ := personOf_some q
          have : x = x' := Option.some.inj (hx.symm.trans e1)
          subst this
          exact ⟨p, u, e2⟩
  | person p =>
    show Good (if PEOPLE ≤ p then (a, Ans.num (-22)) else (erase a 2 (givenBy a p), .num ((thereCount a - thereCount (erase a 2 (givenBy a p)) : Nat) : Int))).1
    by_cases c : PEOPLE ≤ p
    · rw [if_pos c]; exact G
    · rw [if_neg c]; exact good_person G 2 _
  | days n =>
    show Good (if 366 < n ∨ LAST < a.today + n then (a, Ans.num (-22)) else (Kp187.days n a, .num ((thereCount a - thereCount (Kp187.days n a) : Nat) : Int))).1
    by_cases c : 366 < n ∨ LAST < a.today + n
    · rw [if_pos c]; exact G
    · rw [if_neg c]
      have c' : ¬ (366 < n ∨ 100000 < a.today + n) := c
      exact good_days n G (by omega)
  | of p => exact G
  | why i => exact G
end Er
set_option Elab.async false
set_option maxHeartbeats 1000000
set_option linter.unusedVariables false
set_option autoImplicit false
namespace Er
open Kp187 Kp187Neutral
/-! ### which items, by their numbers -/
def thereJ (a : Abs) : List Nat := (List.range a.items.length).filter (there a)
def withJ (a : Abs) (g : Nat) : List Nat := (thereJ a).filter fun j => (insideOf a j).contains g
def givJ (a : Abs) : List Nat := (List.range a.items.length).filter fun j => there a j && (personOf a j).isSome
theorem there_iff {a : Abs} {j : Nat} : there a j = true ↔ ∃ x, a.items[j]? = some x ∧ x.gone = none := by
  constructor
  · exact there_some
  · rintro ⟨x, h1, h2⟩
    unfold there item
    rw [h1]
    show x.gone.isNone = true
    rw [h2]
    rfl
theorem mem_thereJ {a : Abs} {j : Nat} : j ∈ thereJ a ↔ ∃ x, a.items[j]? = some x ∧ x.gone = none := by
  unfold thereJ
  rw [List.mem_filter, there_iff, List.mem_range]
  constructor
  · exact fun h => h.2
  · rintro ⟨x, h1, h2⟩
    exact ⟨(List.getElem?_eq_some_iff.mp h1).1, x, h1, h2⟩
theorem mem_withJ {a : Abs} {g j : Nat} : j ∈ withJ a g ↔ ∃ x, a.items[j]? = some x ∧ x.gone = none ∧ g ∈ x.inside := by
  unfold withJ
  rw [List.mem_filter, mem_thereJ]
  constructor
  · rintro ⟨⟨x, h1, h2⟩, h3⟩
    rw [insideOf_some h1] at h3
    exact ⟨x, h1, h2, List.contains_iff_mem.mp h3⟩
  · rintro ⟨x, h1, h2, h3⟩
    refine ⟨⟨x, h1, h2⟩, ?_⟩
    rw [insideOf_some h1]
    exact List.contains_iff_mem.mpr h3
theorem thereJ_rise (a : Abs) : (thereJ a).Pairwise (· < ·) := List.pairwise_lt_range.filter _
theorem withJ_rise (a : Abs) (g : Nat) : (withJ a g).Pairwise (· < ·) := (thereJ_rise a).filter _
theorem givJ_rise (a : Abs) : (givJ a).Pairwise (· < ·) := List.pairwise_lt_range.filter _
theorem rise_nodup {l : List Nat} (h : l.Pairwise (· < ·)) : l.Nodup := h.imp fun {x y} q => Nat.ne_of_lt q
theorem personOf_given {a : Abs} {j p u : Nat} {x : Item} (h : a.items[j]? = some x) (k : x.kind = .given p u) : personOf a j = some p := by
  unfold personOf item
  rw [h]
  show (match x.kind with | .given p _ => some p | .made _ _ => none) = some p
  rw [k]
theorem personOf_made {a : Abs} {j : Nat} {c : Bool} {l : List Nat} {x : Item} (h : a.items[j]? = some x) (k : x.kind = .made c l) : personOf a j = none := by
  unfold personOf item
  rw [h]
  show (match x.kind with | .given p _ => some p | .made _ _ => none) = none
  rw [k]
theorem mem_givJ {a : Abs} {j : Nat} : j ∈ givJ a ↔ ∃ x p u, a.items[j]? = some x ∧ x.gone = none ∧ x.kind = .given p u := by
  unfold givJ
  rw [List.mem_filter, Bool.and_eq_true, there_iff, List.mem_range]
  constructor
  · rintro ⟨_, ⟨x, h1, h2⟩, h3⟩
    cases q : personOf a j with
    | none => rw [q] at h3; cases h3
    | some p =>
      obtain ⟨y, u, e1, e2⟩ := personOf_some q
      have : x = y := Option.some.inj (h1.symm.trans e1)
      subst this
      exact ⟨x, p, u, h1, h2, e2⟩
  · rintro ⟨x, p, u, h1, h2, h3⟩
    refine ⟨(List.getElem?_eq_some_iff.mp h1).1, ⟨x, h1, h2⟩, ?_⟩
    rw [personOf_given h1 h3]
    rfl
/-- numbers of items, and the items -/
theorem range_len (q : Item → Bool) : ∀ l : List Item, ((List.range l.length).filter fun j => match l[j]? with | some x => q x | none => false).length = (l.filter q).length
  | [] => rfl
  | x :: l => by
    have ih := range_len q l
    rw [List.length_cons, List.range_succ_eq_map, List.filter_cons, List.filter_map, List.filter_cons]
    have e : (fun j => match (x :: l)[j]? with | some x => q x | none => false) ∘ Nat.succ = fun j => match l[j]? with | some x => q x | none => false := by
      funext j
      show (match (x :: l)[j + 1]? with | some x => q x | none => false) = _
      rw [List.getElem?_cons_succ]
    rw [e]
    have e0 : (match (x :: l)[0]? with | some x => q x | none => false) = q x := rfl
    rw [e0]
    cases q x with
    | true =>
      rw [if_pos rfl, if_pos rfl, List.length_cons, List.length_cons, List.length_map, ih]
    | false =>
      rw [if_neg (by simp), if_neg (by simp), List.length_map, ih]
theorem thereJ_len (a : Abs) : (thereJ a).length = thereCount a := range_len (fun x => x.gone.isNone) a.items
/-! ### changing items one by one -/
def modI (a : Abs) (j : Nat) (f : Item → Item) : Abs := { a with items := a.items.modify j f }
def modAll (f : Item → Item) (a : Abs) (js : List Nat) : Abs := js.foldl (fun b j => modI b j f) a
theorem modI_at (a : Abs) (j : Nat) (f : Item → Item) (i : Nat) : (modI a j f).items[i]? = (a.items[i]?).map fun x => if i = j then f x else x := by
  show (a.items.modify j f)[i]? = _
  rw [List.getElem?_modify]
  cases a.items[i]? with
  | none => rfl
  | some x =>
    show some (if j = i then f x else x) = some (if i = j then f x else x)
    by_cases c : i = j
    · rw [if_pos c, if_pos c.symm]
    · rw [if_neg c, if_neg fun e => c e.symm]
theorem modAll_at (f : Item → Item) : ∀ (js : List Nat) (a : Abs), js.Nodup → ∀ i : Nat, (modAll f a js).items[i]? = (a.items[i]?).map fun x => if i ∈ js then f x else x
  | [], a, _, i => by
    show a.items[i]? = _
    cases a.items[i]? with
    | none => rfl
    | some x => simp
  | j :: js, a, nd, i => by
    have n2 := List.nodup_cons.mp nd
    show (modAll f (modI a j f) js).items[i]? = _
    rw [modAll_at f js _ n2.2 i, modI_at]
    cases a.items[i]? with
    | none => rfl
    | some x =>
      show some (if i ∈ js then f (if i = j then f x else x) else (if i = j then f x else x)) = some (if i ∈ j :: js then f x else x)
      by_cases c : i = j
      · subst c
        rw [if_neg n2.1, if_pos rfl, if_pos (List.mem_cons_self ..)]
      · rw [if_neg c]
        by_cases c2 : i ∈ js
        · rw [if_pos c2, if_pos (List.mem_cons_of_mem _ c2)]
        · rw [if_neg c2, if_neg]
          intro z
          rcases List.mem_cons.mp z with z | z
          · exact c z
          · exact c2 z
theorem modAll_rest (f : Item → Item) : ∀ (js : List Nat) (a : Abs), (modAll f a js).many = a.many ∧ (modAll f a js).today = a.today ∧ (modAll f a js).items.length = a.items.length
  | [], a => ⟨rfl, rfl, rfl⟩
  | j :: js, a => by
    obtain ⟨h1, h2, h3⟩ := modAll_rest f js (modI a j f)
    refine ⟨h1, h2, h3.trans ?_⟩
    show (a.items.modify j f).length = _
    rw [List.length_modify]
theorem abs_ext {a b : Abs} (h1 : a.many = b.many) (h2 : a.today = b.today) (h3 : ∀ i : Nat, a.items[i]? = b.items[i]?) : a = b := by
  obtain ⟨m, t, l⟩ := a
  obtain ⟨m', t', l'⟩ := b
  have e1 : m = m' := h1
  have e2 : t = t' := h2
  have e3 : l = l' := List.ext_getElem? h3
  rw [e1, e2, e3]
/-- a map that touches those alone that are there and have g in them -/
theorem map_with {a : Abs} {g : Nat} {F f : Item → Item} (h : ∀ x : Item, F x = if x.gone.isSome || !x.inside.contains g then x else f x) : { a with items := a.items.map F } = modAll f a (withJ a g) := by
  obtain ⟨m1, m2, _⟩ := modAll_rest f (withJ a g) a
  refine abs_ext m1.symm m2.symm fun i => ?_
  rw [modAll_at f _ a (rise_nodup (withJ_rise a g))]
  show (a.items.map F)[i]? = _
  rw [List.getElem?_map]
  cases e : a.items[i]? with
  | none => rfl
  | some x =>
    show some (F x) = some (if i ∈ withJ a g then f x else x)
    rw [h]
    by_cases c : i ∈ withJ a g
    · obtain ⟨y, h1, h2, h3⟩ := mem_withJ.mp c
      have : x = y := Option.some.inj (e.symm.trans h1)
      subst this
      rw [if_pos c, if_neg]
      rw [h2]
      simp
      exact h3
    · rw [if_neg c, if_pos]
      cases q : x.gone with
      | some w => rfl
      | none =>
        cases q2 : x.inside.contains g with
        | false => rfl
        | true => exact absurd (mem_withJ.mpr ⟨x, e, q, List.contains_iff_mem.mp q2⟩) c
/-- what back does to an item -/
def bk1 (g back t : Nat) (x : Item) : Item := { x with purposes := without x.purposes back, gone := if without x.purposes back = 0 then some ⟨1, g, t⟩ else none }
theorem takeBack_eq (a : Abs) (g back : Nat) : takeBack a g back = modAll (bk1 g back a.today) a (withJ a g) := map_with fun x => rfl
/-- an item is erased by g -/
def er2 (why g day : Nat) (x : Item) : Item := { x with gone := some ⟨why, g, day⟩ }
def eG (why g day : Nat) (x : Item) : Item := if x.gone.isSome || !x.inside.contains g then x else er2 why g day x
def eraseG (a : Abs) (why g day : Nat) : Abs := { a with items := a.items.map (eG why g day) }
theorem eraseG_eq (a : Abs) (why g day : Nat) : eraseG a why g day = modAll (er2 why g day) a (withJ a g) := map_with fun x => rfl
def eraseL (why : Nat) (day : Nat → Nat) (a : Abs) (l : List Nat) : Abs := l.foldl (fun b g => eraseG b why g (day g)) a
theorem eraseL_is (why : Nat) (day : Nat → Nat) : ∀ (l : List Nat) (a : Abs), eraseL why day a l = { a with items := a.items.map fun x => l.foldl (fun y g => eG why g (day g) y) x }
  | [], a => by
    show a = { a with items := a.items.map fun x => x }
    rw [List.map_id']
  | g :: l, a => by
    show eraseL why day (eraseG a why g (day g)) l = _
    rw [eraseL_is why day l]
    unfold eraseG
    rw [List.map_map]
    rfl
theorem fold_gone {why : Nat} {day : Nat → Nat} : ∀ (l : List Nat) {x : Item}, x.gone.isSome = true → l.foldl (fun y g => eG why g (day g) y) x = x
  | [], x, _ => rfl
  | g :: l, x, h => by
    have e : eG why g (day g) x = x := by
      unfold eG
      rw [h]
      rfl
    show l.foldl (fun y g => eG why g (day g) y) (eG why g (day g) x) = x
    rw [e]
    exact fold_gone l h
theorem fold_live {why : Nat} {day : Nat → Nat} : ∀ (l : List Nat) {x : Item}, x.gone = none → l.foldl (fun y g => eG why g (day g) y) x = match l.find? (fun g => x.inside.contains g) with
    | some g => er2 why g (day g) x
    | none => x
  | [], x, _ => rfl
  | g :: l, x, h => by
    show l.foldl (fun y g => eG why g (day g) y) (eG why g (day g) x) = _
    rw [List.find?_cons]
    cases c : x.inside.contains g with
    | true =>
      have e : eG why g (day g) x = er2 why g (day g) x := by
        unfold eG
        rw [h, c]
        rfl
      rw [e]
      exact fold_gone l rfl
    | false =>
      have e : eG why g (day g) x = x := by
        unfold eG
        rw [h, c]
        rfl
      rw [e]
      exact fold_live l h
/-! ### the first of a list -/
theorem find_first {R : Nat → Nat → Prop} (hr : ∀ x, R x x) {p : Nat → Bool} : ∀ {l : List Nat} {g : Nat}, l.Pairwise R → l.find? p = some g → ∀ h ∈ l, p h = true → R g h
  | [], g, _, e, _, _, _ => by cases e
  | x :: l, g, hp, e, h, hm, hh => by
    rw [List.find?_cons] at e
    obtain ⟨h1, h2⟩ := List.pairwise_cons.mp hp
    cases c : p x with
    | true =>
      rw [c] at e
      have : x = g := Option.some.inj e
      subst this
      rcases List.mem_cons.mp hm with z | z
      · rw [z]; exact hr x
      · exact h1 h z
    | false =>
      rw [c] at e
      rcases List.mem_cons.mp hm with z | z
      · rw [z, c] at hh; cases hh
      · exact find_first hr h2 e h z hh
theorem find_swap {l m : List Nat} (hl : l.Pairwise (· < ·)) (hm : m.Pairwise (· < ·)) : l.find? (fun g => m.contains g) = m.find? (fun g => l.contains g) := by
  have le1 : l.Pairwise (· ≤ ·) := hl.imp fun {x y} q => Nat.le_of_lt q
  have le2 : m.Pairwise (· ≤ ·) := hm.imp fun {x y} q => Nat.le_of_lt q
  cases e1 : l.find? (fun g => m.contains g) with
  | none =>
    symm
    rw [List.find?_eq_none]
    intro g hg hc
    exact List.find?_eq_none.mp e1 g (List.contains_iff_mem.mp hc) (List.contains_iff_mem.mpr hg)
  | some g =>
    have g1 := List.mem_of_find?_eq_some e1
    have g2 : m.contains g = true := List.find?_some (p := fun g => m.contains g) e1
    have g2' := List.contains_iff_mem.mp g2
    cases e2 : m.find? (fun g => l.contains g) with
    | none => exact absurd (List.contains_iff_mem.mpr g1) (List.find?_eq_none.mp e2 g g2')
    | some h =>
      have h1 := List.mem_of_find?_eq_some e2
      have h2 : l.contains h = true := List.find?_some (p := fun g => l.contains g) e2
      have q1 := find_first (fun x => Nat.le_refl x) le1 e1 h (List.contains_iff_mem.mp h2) (List.contains_iff_mem.mpr h1)
      have q2 := find_first (fun x => Nat.le_refl x) le2 e2 g g2' (List.contains_iff_mem.mpr g1)
      rw [Nat.le_antisymm q1 q2]
theorem find_congr {p q : Nat → Bool} : ∀ {l : List Nat}, (∀ g ∈ l, p g = q g) → l.find? p = l.find? q
  | [], _ => rfl
  | x :: l, h => by
    rw [List.find?_cons, List.find?_cons, h x (List.mem_cons_self ..), find_congr fun g hg => h g (List.mem_cons_of_mem _ hg)]
/-! ### er_person -/
theorem person_eq {a : Abs} (G : Good a) (p : Nat) {l : List Nat} (hl : l.Pairwise (· < ·)) (h : ∀ g, g ∈ l ↔ g ∈ givJ a ∧ personOf a g = some p) : erase a 2 (givenBy a p) = eraseL 2 (fun _ => a.today) a l := by
  rw [eraseL_is]
  refine abs_ext rfl rfl fun i => ?_
  show (a.items.map (er1 a.today 2 (givenBy a p)))[i]? = (a.items.map _)[i]?
  rw [List.getElem?_map, List.getElem?_map]
  cases e : a.items[i]? with
  | none => rfl
  | some x =>
    have o := G.it i x e
    show some (er1 a.today 2 (givenBy a p) x) = some (l.foldl (fun y g => eG 2 g a.today y) x)
    congr 1
    cases q : x.gone with
    | some w =>
      rw [fold_gone (day := fun _ => a.today) l (by rw [q]; rfl)]
      unfold er1
      rw [q]
      rfl
    | none =>
      rw [fold_live (day := fun _ => a.today) l q, find_swap hl o.rise]
      unfold er1
      rw [q]
      have e2 : x.inside.find? (givenBy a p).contains = x.inside.find? (fun g => l.contains g) := find_congr fun g hg => by
        obtain ⟨y, p', u, h1, h2, h3, h4, h5⟩ := o.live q g hg
        have pe := personOf_given h1 h2
        rw [Bool.eq_iff_iff, List.contains_iff_mem, List.contains_iff_mem, h g]
        unfold givenBy
        rw [List.mem_filter, List.mem_range, beq_iff_eq]
        exact ⟨fun z => ⟨mem_givJ.mpr ⟨y, p', u, h1, h4, h2⟩, z.2⟩, fun z => ⟨(List.getElem?_eq_some_iff.mp h1).1, z.2⟩⟩
      rw [e2]
      show (match x.inside.find? (fun g => l.contains g) with
        | some g => { x with gone := some ⟨2, g, a.today⟩ }
        | none => x) = _
      cases x.inside.find? (fun g => l.contains g) <;> rfl
/-! ### er_days -/
def untilOf (a : Abs) (g : Nat) : Nat := match item a g with
  | some x => (match x.kind with
    | .given _ u => u
    | .made _ _ => 0)
  | none => 0
theorem untilOf_given {a : Abs} {j p u : Nat} {x : Item} (h : a.items[j]? = some x) (k : x.kind = .given p u) : untilOf a j = u := by
  unfold untilOf item
  rw [h]
  show (match x.kind with | .given _ u => u | .made _ _ => 0) = u
  rw [k]
def dy (U : Nat → Nat) (t : Nat) (x : Item) : Item := if x.gone.isSome then x else match x.inside.find? (fun g => decide (U g < t)) with
  | some g => er2 3 g t x
  | none => x
def dN (U : Nat → Nat) : Nat → Nat → Item → Item
  | 0, _, x => x
  | n + 1, t, x => dN U n (t + 1) (dy U (t + 1) x)
theorem dN_gone (U : Nat → Nat) : ∀ (n t : Nat) {x : Item}, x.gone.isSome = true → dN U n t x = x
  | 0, _, _, _ => rfl
  | n + 1, t, x, h => by
    have e : dy U (t + 1) x = x := by
      unfold dy
      rw [h]
      rfl
    show dN U n (t + 1) (dy U (t + 1) x) = x
    rw [e]
    exact dN_gone U n (t + 1) h
theorem lex_refl (k : Nat → Nat) (x : Nat) : k x < k x ∨ (k x = k x ∧ x ≤ x) := .inr ⟨rfl, Nat.le_refl x⟩
theorem dN_live (U : Nat → Nat) {overs : List Nat} (hs : overs.Pairwise fun g h => U g < U h ∨ (U g = U h ∧ g ≤ h)) : ∀ (n t : Nat) {x : Item}, x.gone = none → x.inside.Pairwise (· < ·) → (∀ g ∈ x.inside, t ≤ U g) → (∀ g ∈ x.inside, (g ∈ overs ↔ U g < t + n)) →
    dN U n t x = match overs.find? (fun g => x.inside.contains g) with
      | some g => er2 3 g (U g + 1) x
      | none => x
  | 0, t, x, hl, hr, h1, h2 => by
    have e : overs.find? (fun g => x.inside.contains g) = none := by
      rw [List.find?_eq_none]
      intro g hg hc
      have hc' := List.contains_iff_mem.mp hc
      have := (h2 g hc').mp hg
      have := h1 g hc'
      omega
    rw [e]
    rfl
  | n + 1, t, x, hl, hr, h1, h2 => by
    show dN U n (t + 1) (dy U (t + 1) x) = _
    have hr2 : x.inside.Pairwise (· ≤ ·) := hr.imp fun {x y} q => Nat.le_of_lt q
    cases e : x.inside.find? (fun g => decide (U g < t + 1)) with
    | none =>
      have e1 : dy U (t + 1) x = x := by
        unfold dy
        rw [hl, e]
        rfl
      rw [e1]
      refine dN_live U hs n (t + 1) hl hr (fun g hg => ?_) fun g hg => ?_
      · have := List.find?_eq_none.mp e g hg
        rw [decide_eq_true_eq] at this
        omega
      · rw [h2 g hg]
        omega
    | some g =>
      have g1 := List.mem_of_find?_eq_some e
      have g2 : decide (U g < t + 1) = true := List.find?_some (p := fun g => decide (U g < t + 1)) e
      rw [decide_eq_true_eq] at g2
      have g3 := h1 g g1
      have e1 : dy U (t + 1) x = er2 3 g (t + 1) x := by
        unfold dy
        rw [hl, e]
        rfl
      rw [e1, dN_gone U n (t + 1) rfl]
      have go : g ∈ overs := (h2 g g1).mpr (by omega)
      cases e2 : overs.find? (fun g => x.inside.contains g) with
      | none => exact absurd (List.contains_iff_mem.mpr g1) (List.find?_eq_none.mp e2 g go)
      | some h =>
        have k1 := List.mem_of_find?_eq_some e2
        have k2 : x.inside.contains h = true := List.find?_some (p := fun g => x.inside.contains g) e2
        have k2' := List.contains_iff_mem.mp k2
        have f1 := find_first (lex_refl U) hs e2 g go (List.contains_iff_mem.mpr g1)
        have k3 := h1 h k2'
        have f2 : U h < t + 1 → g ≤ h := fun z => find_first (fun x => Nat.le_refl x) hr2 e h k2' (decide_eq_true z)
        have e3 : h = g := by
          rcases f1 with z | ⟨z1, z2⟩
          · omega
          · have := f2 (by omega)
            omega
        subst e3
        show er2 3 h (t + 1) x = er2 3 h (U h + 1) x
        rw [show U h = t by omega]
theorem dy_is {a : Abs} (G : Good a) {i : Nat} {x : Item} (e : a.items[i]? = some x) : er1 (a.today + 1) 3 (overNow { a with today := a.today + 1 }) x = dy (untilOf a) (a.today + 1) x := by
  unfold er1 dy
  cases q : x.gone with
  | some w => rfl
  | none =>
    have e2 : x.inside.find? (overNow { a with today := a.today + 1 }).contains = x.inside.find? (fun g => decide (untilOf a g < a.today + 1)) := find_congr fun g hg => by
      obtain ⟨y, p, u, h1, h2, h3, h4, h5⟩ := (G.it i x e).live q g hg
      rw [untilOf_given h1 h2, Bool.eq_iff_iff, List.contains_iff_mem, decide_eq_true_eq]
      constructor
      · intro z
        unfold overNow at z
        rw [List.mem_filter] at z
        have z2 := z.2
        have z3 : (match (a.items[g]?) with
          | some x => (match x.kind with
            | .given _ u => decide (u < a.today + 1)
            | .made _ _ => false)
          | none => false) = true := z2
        rw [h1] at z3
        have z4 : (match y.kind with
            | .given _ u => decide (u < a.today + 1)
            | .made _ _ => false) = true := z3
        rw [h2] at z4
        exact of_decide_eq_true z4
      · exact fun z => mem_over (a := { a with today := a.today + 1 }) h1 h2 z
    rw [e2]
    show (match x.inside.find? (fun g => decide (untilOf a g < a.today + 1)) with
      | some g => { x with gone := some ⟨3, g, a.today + 1⟩ }
      | none => x) = (match x.inside.find? (fun g => decide (untilOf a g < a.today + 1)) with
      | some g => er2 3 g (a.today + 1) x
      | none => x)
    cases x.inside.find? (fun g => decide (untilOf a g < a.today + 1)) <;> rfl
theorem day_at (a : Abs) (i : Nat) : (day a).items[i]? = (a.items[i]?).map (er1 (a.today + 1) 3 (overNow { a with today := a.today + 1 })) := by
  show (a.items.map (er1 (a.today + 1) 3 (overNow { a with today := a.today + 1 })))[i]? = _
  rw [List.getElem?_map]
theorem untilOf_day (a : Abs) : untilOf (day a) = untilOf a := by
  funext g
  unfold untilOf item
  rw [day_at]
  cases a.items[g]? with
  | none => rfl
  | some x =>
    show (match (er1 (a.today + 1) 3 (overNow { a with today := a.today + 1 }) x).kind with | .given _ u => u | .made _ _ => 0) = _
    rw [(er1_kind _ _ _ x).1]
theorem days_at : ∀ (n : Nat) {a : Abs}, Good a → a.today + n ≤ 100000 → ∀ i : Nat, (Kp187.days n a).items[i]? = (a.items[i]?).map (dN (untilOf a) n a.today)
  | 0, a, _, _, i => by
    show a.items[i]? = _
    cases a.items[i]? <;> rfl
  | n + 1, a, G, h, i => by
    show (Kp187.days n (day a)).items[i]? = _
    rw [days_at n (good_day G (by omega)) (by rw [day_today]; omega) i, untilOf_day, day_today, day_at]
    cases e : a.items[i]? with
    | none => rfl
    | some x =>
      show some (dN (untilOf a) n (a.today + 1) (er1 (a.today + 1) 3 (overNow { a with today := a.today + 1 }) x)) = some (dN (untilOf a) n (a.today + 1) (dy (untilOf a) (a.today + 1) x))
      rw [dy_is G e]
theorem days_rest : ∀ (n : Nat) (a : Abs), (Kp187.days n a).many = a.many ∧ (Kp187.days n a).today = a.today + n
  | 0, a => ⟨rfl, rfl⟩
  | n + 1, a => by
    obtain ⟨h1, h2⟩ := days_rest n (day a)
    refine ⟨h1, h2.trans ?_⟩
    rw [day_today]
    omega
theorem days_eq {a : Abs} (G : Good a) {n : Nat} (hn : a.today + n ≤ 100000) {overs : List Nat} (hs : overs.Pairwise fun g h => untilOf a g < untilOf a h ∨ (untilOf a g = untilOf a h ∧ g ≤ h)) (ho : ∀ g, g ∈ overs ↔ g ∈ givJ a ∧ untilOf a g < a.today + n) :
    Kp187.days n a = eraseL 3 (fun g => untilOf a g + 1) { a with today := a.today + n } overs := by
  rw [eraseL_is]
  obtain ⟨r1, r2⟩ := days_rest n a
  refine abs_ext r1 r2 fun i => ?_
  show (Kp187.days n a).items[i]? = (a.items.map _)[i]?
  rw [days_at n G hn i, List.getElem?_map]
  cases e : a.items[i]? with
  | none => rfl
  | some x =>
    have o := G.it i x e
    show some (dN (untilOf a) n a.today x) = some (overs.foldl (fun y g => eG 3 g (untilOf a g + 1) y) x)
    congr 1
    cases q : x.gone with
    | some w =>
      rw [fold_gone (day := fun g => untilOf a g + 1) overs (by rw [q]; rfl), dN_gone _ _ _ (by rw [q]; rfl)]
    | none =>
      have lv := o.live q
      rw [fold_live (day := fun g => untilOf a g + 1) overs q]
      refine dN_live (untilOf a) hs n a.today q o.rise (fun g hg => ?_) fun g hg => ?_
      · obtain ⟨y, p, u, h1, h2, h3, h4, h5⟩ := lv g hg
        rw [untilOf_given h1 h2]
        exact h3
      · obtain ⟨y, p, u, h1, h2, h3, h4, h5⟩ := lv g hg
        rw [ho g]
        exact ⟨fun z => z.2, fun z => ⟨mem_givJ.mpr ⟨y, p, u, h1, h4, h2⟩, z⟩⟩
/-! ### how many are erased -/
theorem count_le {a : Abs} {F : Item → Item} (h : ∀ x : Item, (F x).gone.isNone = true → x.gone.isNone = true) : ((a.items.map F).filter fun x => x.gone.isNone).length ≤ thereCount a := by
  unfold thereCount
  rw [List.filter_map, List.length_map]
  induction a.items with
  | nil => exact Nat.le_refl _
  | cons x l ih =>
    rw [List.filter_cons, List.filter_cons]
    have c := h x
    by_cases c1 : ((fun x => x.gone.isNone) ∘ F) x = true
    · rw [if_pos c1, if_pos (c c1)]
      simp only [List.length_cons]
      omega
    · rw [if_neg c1]
      split
      · rw [List.length_cons]
        omega
      · exact ih
theorem eG_none {why g d : Nat} {x : Item} (h : (eG why g d x).gone.isNone = true) : x.gone.isNone = true := by
  unfold eG at h
  split at h
  · exact h
  · cases h
theorem eraseL_le (why : Nat) (d : Nat → Nat) (a : Abs) (l : List Nat) : thereCount (eraseL why d a l) ≤ thereCount a := by
  rw [eraseL_is]
  refine count_le fun x => ?_
  induction l generalizing x with
  | nil => exact id
  | cons g l ih => exact fun h => eG_none (ih _ h)
theorem takeBack_le (a : Abs) (g back : Nat) : thereCount (takeBack a g back) ≤ thereCount a := by
  refine count_le fun x h => ?_
  revert h
  by_cases c : (x.gone.isSome || !x.inside.contains g) = true
  · rw [if_pos c]
    exact id
  · intro _
    cases q : x.gone with
    | none => rfl
    | some w =>
      rw [q] at c
      exact absurd rfl c
end Er
set_option Elab.async false
set_option maxRecDepth 100000
set_option maxHeartbeats 4000000
set_option linter.unusedVariables false
set_option autoImplicit false
namespace Er
open PySem PySem.Spec PyProof.Rows L2
open LamX (CodeO TabS TabB ExtN inv_table among_app codeO_ne)
/-! ### a lambda of one parameter that reads one captured name, handed to sorted as key= -/
/-- the object at f is the lambda -/
def LamO (f : Addr) (q : Str) (ps : Arguments) (b : Expr) (sc : Scope) (cl : List (Str × Addr)) (c : Addr) : HO :=
  .ext fun h => ∃ pm ctv : Value, h.get? f = some (PySem.W.kla_obj "<lambda>" q ps b sc cl pm c ctv)
section
variable {X : Cx} {pins : List (Addr × Obj)} {σ : L2.St} {H : Hp} {s : Shared} {q : Str} {ps : Arguments} {b : Expr} {sc : Scope} {cl : List (Str × Addr)} {c : Addr}
theorem lamO_at {P : Program} {w : World} {h : Heap} {f : Addr} (hok : HOk P w H h) (e : H f = some (LamO f q ps b sc cl c)) : ∃ pm ctv : Value, h.get? f = some (PySem.W.kla_obj "<lambda>" q ps b sc cl pm c ctv) := by
  obtain ⟨z, _, _⟩ := hok f _ e
  exact z
theorem inv_lam {o : Obj} {t' : Nat} {pm ctv : Value} (I : Inv X pins σ H s) (ho : o = PySem.W.kla_obj "<lambda>" q ps b sc cl pm c ctv) :
    Inv X pins σ (upd H s.heap.objs.size (LamO s.heap.objs.size q ps b sc cl c)) { s with heap := s.heap.push o, toks := t' } := by
  subst ho
  refine I.laid (a := s.heap.objs.size) (fun d u e => Heap.get?_push_of_some _ e) (Nat.le_refl _) ?_
  have e : (s.heap.push (PySem.W.kla_obj "<lambda>" q ps b sc cl pm c ctv)).get? s.heap.objs.size = some (PySem.W.kla_obj "<lambda>" q ps b sc cl pm c ctv) := Heap.get?_push_size _ rfl
  exact ⟨⟨pm, ctv, e⟩, ⟨_, e⟩, fun h1 h2 ⟨p', t, z⟩ st => ⟨p', t, st _ z⟩⟩
theorem tabS_up {H' : Hp} {P : Addr} (t : TabS H P q) (e : ∀ d o, H d = some o → H' d = some o) : TabS H' P q := t.ext e
/-- the lambda is made -/
theorem lam_mk {P : Addr} {scope : Scope} {params : Arguments} {body : Expr} {pos : Pos} {E : Value → Shared → Prop} {Q : Value → Shared → Prop} (I : Inv X pins σ H s) (TB : TabB X.base X.mg c P) (hcode : X.env.code = .ref c) (hT : TabS H P (X.env.qual ++ "<lambda>"))
    (hdef : defaultsOf params X.env = ([], [])) (hfree : ∀ y ∈ scope.names, y.2 = .free → ∃ c, X.env.cells.lookup y.1 = some c)
    (h : ∀ (f c' : Addr) (H1 : Hp) (s' : Shared), Inv X pins σ H1 s' → ExtN H H1 → (∀ d, H1 d = Option.none → H d = Option.none) → TabS H1 P (X.env.qual ++ "<lambda>") → H f = none →
      H1 f = some (LamO f (X.env.qual ++ "<lambda>") params body scope (cloFrom X.env.cells scope.names []) c') → H1 c' = some (CodeO c' (X.env.qual ++ "<lambda>")) → Q (.ref f) s') :
    wpAny (model X.prog X.w) X.A (eval (.Lambda params body scope pos) X.env) Q E s := by
  obtain ⟨tb, hP, ht, ha⟩ := hT
  refine PySem.W.kla_eval hdef ?_
  have bP := TB.bm.keeps I.bk
  have hP' : s.heap.get? P = some { cls := .none, data := .fields tb } := I.hok P _ hP
  cases hc : codeAmong pos tb.toList with
  | none =>
    refine PySem.W.kla_makeFunction (mg := X.mg) (c := c) (P := P) (ps := tb) (closure_ok hfree) I.ok.glob (I.mod.glob.keeps I.bk) hcode (TB.code.keeps I.bk) hP' ht hc TB.gP bP fun c' ctv h' tk hx hge hlt hrec htb => ?_
    obtain ⟨c2, oc, vs, t, e2, hoc, hd, hv⟩ := hrec
    cases e2
    have nC : H c' = none := I.hok.fresh hge
    have I1 := inv_table (t' := tk) (more := #[rawInt pos.line, rawInt pos.col, .ref c']) (h' := h') I hP (fun d o hb e => hx d o hb e) htb hge ⟨oc, vs, t, hoc, hd, hv⟩
    have up : ExtN H (upd (upd H P (.tbl (tb ++ #[rawInt pos.line, rawInt pos.col, .ref c']))) c' (CodeO c' (X.env.qual ++ "<lambda>"))) := fun d o e n => by
      rw [upd_ne (ne_of_none e nC), upd_ne (fun z => n tb (Option.some.inj (e.symm.trans (by rw [z]; exact hP))))]
      exact e
    have eL : (tb ++ #[rawInt pos.line, rawInt pos.col, .ref c']).toList = tb.toList ++ [rawInt pos.line, rawInt pos.col, .ref c'] := by simp
    have T1 : TabS (upd (upd H P (.tbl (tb ++ #[rawInt pos.line, rawInt pos.col, .ref c']))) c' (CodeO c' (X.env.qual ++ "<lambda>"))) P (X.env.qual ++ "<lambda>") := by
      refine ⟨_, by rw [upd_ne (ne_of_none hP nC), upd_same], by rw [eL]; exact PySem.TriplesOk_snoc _ _ _ _ ht, fun p' cv hcv => ?_⟩
      rw [eL] at hcv
      rcases among_app _ ht hcv with z | z
      · obtain ⟨c0, e1, e2⟩ := ha p' cv z
        exact ⟨c0, e1, up _ _ e2 codeO_ne⟩
      · exact ⟨c', z, upd_same⟩
    have nF := I1.hok.fresh (Nat.le_refl _)
    have I2 := inv_lam (q := X.env.qual ++ "<lambda>") (ps := params) (b := body) (sc := scope) (cl := cloFrom X.env.cells scope.names []) (c := c') (t' := tk) (pm := (X.mg "__name__").getD .none) (ctv := ctv) I1 rfl
    refine h h'.objs.size c' _ _ I2 (fun d o e n => ?_) (fun d e => NdefX.upd_none (NdefX.upd_none (NdefX.upd_none e))) (tabS_up T1 fun d o e => ?_) (I.hok.fresh (Nat.le_trans hge (Nat.le_of_lt hlt))) upd_same ?_
    · have e1 := up d o e n
      rw [← e1]
      exact upd_ne (ne_of_none e1 nF)
    · rw [← e]
      exact upd_ne (ne_of_none e nF)
    · refine Eq.trans (upd_ne (Nat.ne_of_lt hlt)) upd_same
  | some cv =>
    obtain ⟨c', e, hco⟩ := ha pos cv hc
    subst e
    refine PySem.W.kla_makeFunctionHit (mg := X.mg) (c := c) (P := P) (ps := tb) (closure_ok hfree) I.ok.glob (I.mod.glob.keeps I.bk) hcode (TB.code.keeps I.bk) hP' ht hc bP fun ctv h' tk hx hsz => ?_
    have I1 : Inv X pins σ H { s with heap := h', toks := tk } := I.kept hx
    have nF : H h'.objs.size = none := I1.hok.fresh (Nat.le_refl _)
    have I2 := inv_lam (q := X.env.qual ++ "<lambda>") (ps := params) (b := body) (sc := scope) (cl := cloFrom X.env.cells scope.names []) (c := c') (t' := tk) (pm := (X.mg "__name__").getD .none) (ctv := ctv) I1 rfl
    refine h h'.objs.size c' _ _ I2 (fun d o e n => ?_) (fun d e => NdefX.upd_none e) (tabS_up ⟨tb, hP, ht, ha⟩ fun d o e => ?_) nF upd_same ?_
    · rw [← e]
      exact upd_ne (ne_of_none e nF)
    · rw [← e]
      exact upd_ne (ne_of_none e nF)
    · rw [← hco]
      exact upd_ne (ne_of_none hco nF)
/-- what is asked of the lambda's scope: its parameter a, and y of the def around -/
structure Lam1 (sc scope : Scope) (a y : Str) : Prop where
  kind : scope.kind = .function
  co : scope.isCoroutine = false
  gen : scope.isGenerator = false
  names : scope.names = [(a, .local), (y, .free)]
  ne : (y == a) = false
  cell : sc.names.lookup y = some .cell
theorem Lam1.lkA {sc scope : Scope} {a y : Str} (L : Lam1 sc scope a y) : scope.names.lookup a = some .local := by
  rw [L.names]
  have e : (a == a) = true := beq_self_eq_true a
  simp only [List.lookup, e]
theorem Lam1.lkY {sc scope : Scope} {a y : Str} (L : Lam1 sc scope a y) : scope.names.lookup y = some .free := by
  rw [L.names]
  have e : (y == y) = true := beq_self_eq_true y
  simp only [List.lookup, e, L.ne]
theorem Lam1.fr {sc scope : Scope} {a y z : Str} (L : Lam1 sc scope a y) (h : (z, NameKind.free) ∈ scope.names) : z = y := by
  rw [L.names] at h
  rcases List.mem_cons.mp h with e | e
  · cases e
  · rw [List.mem_singleton] at e
    exact congrArg Prod.fst e
theorem Lam1.has {scope : Scope} {a y : Str} (L : Lam1 X.env.scope scope a y) (ok : X.Ok) : ∀ z ∈ scope.names, z.2 = .free → ∃ c, X.env.cells.lookup z.1 = some c := fun z hz e => by
  have hz' : (z.1, NameKind.free) ∈ scope.names := by
    rw [← e]
    exact hz
  rw [L.fr hz']
  exact ok.has y (.inl L.cell)
/-- the lambda's body running -/
def lamC (X : Cx) (A : Around) (a y : Str) (s : Shared) (H : Hp) (scope : Scope) (f c' : Addr) : Cx where
  prog := X.prog
  w := X.w
  K := X.K
  mg := X.mg
  base := X.base
  A := A.deeper (LamX.lamEnv X scope s.heap.objs.size f c')
  N := [a, y]
  s_0 := s
  H_0 := H
  env := LamX.lamEnv X scope s.heap.objs.size f c'
  outer := X.stack
  stack := LamX.lamEnv X scope s.heap.objs.size f c' :: X.stack
  ex := []
  fn := fun _ => false
  calm := true
  pn := []
  xe := fun _ _ => False
theorem lam_in {A : Around} {scope : Scope} {f c' : Addr} {h₁ : Heap} {tk : Nat} {a y : Str} {i : Nat} {v x : V} {u : Value} (I : Inv X pins σ H s) (hN : X.N[i]? = some y) (hv : σ[i]? = some (some v)) (L : Lam1 X.env.scope scope a y) (e0 : Env0 X.prog X.w X.K X.mg X.base A X.stack s H) (hd : A.handled = none) (r : RelV x u)
    (hns : h₁.Ns s.heap.objs.size fun z => ([(a, u)] : List (Str × Value)).reverse.lookup z) (kp : ∀ d o, s.heap.get? d = some o → h₁.get? d = some o) :
    Inv (lamC X A a y s H scope f c') [] [some x, some v] H { s with heap := h₁, toks := tk } := by
  have hfree := L.has I.ok
  have cm : ∀ {z c}, (cloFrom X.env.cells scope.names []).lookup z = some c → X.env.cells.lookup z = some c := fun {z c} e => by
    rcases cloFrom_mem (PySem.mem_of_lookup e) with hm | ⟨h1, h2⟩
    · cases hm
    · obtain ⟨c1, hc⟩ := hfree _ h1 rfl
      have hc : X.env.cells.lookup z = some c1 := hc
      rw [hc] at h2
      rw [hc, h2]
      rfl
  have look : ∃ c, (cloFrom X.env.cells scope.names []).lookup y = some c := mem_lookup (cloFrom_has (cells := X.env.cells) (acc := []) (PySem.mem_of_lookup L.lkY))
  have cellK : ∀ {c : Addr} {v : Option Value}, s.heap.IsCell c v → h₁.IsCell c v := fun {c v} ⟨o, ho, hd⟩ => ⟨o, kp _ _ ho, hd⟩
  have noA : ∀ d : Addr, d ∉ (lamC X A a y s H scope f c').ex := fun d z => absurd (show d ∈ ([] : List Addr) from z) (by simp)
  refine ⟨⟨e0.mod, L.kind, rfl, rfl, Nat.le_refl _, fun z1 z2 c e1 e2 => I.ok.inj z1 z2 c (cm e1) (cm e2), fun z hz => ?_, fun z c hz _ => ?_, fun _ => hd, Around.frames_deeper e0.frames, .inr ⟨rfl, rfl⟩, fun d z => absurd z (noA d), e0.bs, e0.bsz, fun d _ _ => noA d,
      fun d z => absurd z (noA d), e0.funs, e0.frf⟩,
    rfl, e0.bare, Un.kept kp, ⟨_, hns, fun j z v' e1 e2 e3 => ?_⟩, fun z c e => ?_, e0.hok.fresh (Nat.le_refl _), fun z c e => ?_, fun p hp => absurd (show p ∈ ([] : List (Addr × Obj)) ++ [] from hp) (by simp), e0.hok.kept kp, rfl⟩
  · have hz : scope.names.lookup z = some .cell ∨ scope.names.lookup z = some .free := hz
    rcases hz with k | k
    · have m := PySem.mem_of_lookup k
      rw [L.names] at m
      rcases List.mem_cons.mp m with e | e
      · cases e
      · rw [List.mem_singleton] at e
        cases e
    · rw [L.fr (PySem.mem_of_lookup k)]
      exact look
  · have hz : false = true := hz
    cases hz
  · match j with
    | 0 =>
      have e1' : a = z := Option.some.inj e1
      have e2' : x = v' := Option.some.inj (Option.some.inj e2)
      subst e1'
      subst e2'
      refine ⟨u, r, .inl ⟨L.lkA, ?_⟩⟩
      have e : (a == a) = true := beq_self_eq_true a
      show List.lookup a [(a, u)] = some u
      simp only [List.lookup, e]
    | 1 =>
      have e1' : y = z := Option.some.inj e1
      have e2' : v = v' := Option.some.inj (Option.some.inj e2)
      subst e1'
      subst e2'
      obtain ⟨m, hn, hl⟩ := I.loc
      obtain ⟨w', r', lk⟩ := hl i y v hN hv (.inr (.inl L.cell))
      obtain ⟨c2, h2⟩ := look
      refine ⟨w', r', .inr ⟨.inr L.lkY, c2, h2, ?_⟩⟩
      have c1 := cm h2
      rcases lk with ⟨k', _⟩ | ⟨_, c3, e', z'⟩
      · have k' : X.env.scope.names.lookup y = some .local := k'
        rw [L.cell] at k'
        cases k'
      · rw [c1] at e'
        cases e'
        exact cellK z'
    | j + 2 => cases e1
  · obtain ⟨w', z'⟩ := I.cell z c (cm e)
    exact ⟨w', cellK z'⟩
  · obtain ⟨v', o, ho, hd'⟩ := I.cell z c (cm e)
    exact I.freeC z c (cm e)
/-- the lambda is called -/
theorem lam_run {A : Around} {scope : Scope} {params : Arguments} {body : Expr} {f c' : Addr} {a y : Str} {i k : Nat} {v x : V} {u : Value} {tb : TE} {Q : VK} {E : Value → Shared → Prop} (I : Inv X pins σ H s) (hN : X.N[i]? = some y) (hv : σ[i]? = some (some v)) (L : Lam1 X.env.scope scope a y)
    (hf : H f = some (LamO f (X.env.qual ++ "<lambda>") params body scope (cloFrom X.env.cells scope.names []) c')) (hc : H c' = some (CodeO c' (X.env.qual ++ "<lambda>"))) (e0 : Env0 X.prog X.w X.K X.mg X.base A X.stack s H) (hr : Room (k + 1) A)
    (hbind : ∀ (pm ctv : Value), bindArgs (PySem.W.kla_fn "<lambda>" (X.env.qual ++ "<lambda>") params body scope (cloFrom X.env.cells scope.names []) pm (.ref c') ctv) ⟨[u], []⟩ = pure [(a, u)])
    (hbody : PE (lamC X A a y s H scope f c') body tb) (r : RelV x u) (ht : tb [some x, some v] H Q) : wpAny (model X.prog X.w) A (call (.ref f) [u]) (EP X pins σ Q) E s := by
  obtain ⟨pm, ctv, hof⟩ := lamO_at I.hok hf
  obtain ⟨⟨oc, vs, t, hoc, hdc, hvc⟩, _, _⟩ := I.hok c' _ hc
  have rc : codeAny (model X.prog X.w) A (.call (.ref f) ⟨[u], []⟩) (CR CX0 X.stack X.prog X.w H s Q E0) s := by
    refine PySem.W.kla_callFunE hr.depth hof rfl L.co L.gen rfl ⟨c', oc, vs, t, rfl, hoc, hdc, hvc⟩ ?_
    rw [hbind]
    refine wpAny_pure (wpAny_newFunctionEnv (fun z hz => ?_) (fun z hz => ?_) (fun h₁ hns hsb => ⟨I.nolimit.fresh _ hsb, ?_⟩) L.kind)
    · rw [show (PySem.W.kla_fn "<lambda>" (X.env.qual ++ "<lambda>") params body scope (cloFrom X.env.cells scope.names []) pm (.ref c') ctv).scope.names = scope.names from rfl, L.names] at hz
      rcases List.mem_cons.mp hz with e | e
      · rw [e]
        show NameKind.local ≠ NameKind.cell
        decide
      · rw [List.mem_singleton] at e
        rw [e]
        show NameKind.free ≠ NameKind.cell
        decide
    · rw [List.mem_singleton] at hz
      rw [hz]
      exact L.lkA
    show codeAny _ _ (.expr body (LamX.lamEnv X scope s.heap.objs.size f c')) _ _
    have kp : ∀ d o, s.heap.get? d = some o → h₁.get? d = some o := fun d o e => hsb.extBut d o (Nat.ne_of_lt (Heap.lt_size e)) (Heap.get?_push_of_some _ e)
    have J := lam_in (A := A) (f := f) (c' := c') (tk := s.toks + ([(a, u)] : List (Str × Value)).length) I hN hv L e0 hr.hd r hns kp
    refine PySem.W.kla_codeExpr (wpAny_mono (hbody.run [] _ _ H Q J ht) (fun v' s' hq => ?_) fun e s' hq => hq.elim)
    obtain ⟨w', H', J', rv, q'⟩ := hq
    exact ⟨w', H', J'.os, J'.bare, J'.base, J'.hok, rv, q'⟩
  refine wpAny_call (codeAny_mono rc fun r' s' hq => ?_)
  cases r' with
  | error e => exact (show False from hq).elim
  | ok fl =>
    cases fl with
    | ret u' => exact I.after hq
    | next => exact False.elim hq
    | brk => exact False.elim hq
    | cont => exact False.elim hq
end
end Er
set_option Elab.async false
set_option maxRecDepth 100000
set_option maxHeartbeats 4000000
set_option linter.unusedVariables false
set_option autoImplicit false
namespace Er
open PySem PySem.Spec PyProof.Rows L2
open LamX (CodeO TabS TabB ExtN inv_table among_app codeO_ne)
theorem same_upd {H H' : Hp} {p : Addr} {o : HO} (s : Same H H') (hp : H p = none) : Same H (upd H' p o) := fun d u e => by
  rw [upd_ne (ne_of_none e hp)]
  exact s d u e
/-- what stands there is just this object -/
def PinO (D : Addr) (o : Obj) : HO := .ext fun h => h.get? D = some o
theorem pinO_ok {P : Program} {w : World} {H : Hp} {h : Heap} {D : Addr} {o : Obj} (e : h.get? D = some o) : ObjOk P w H h D (PinO D o) := ⟨e, ⟨_, e⟩, fun h1 h2 z st => st _ z⟩
theorem pinO_at {P : Program} {w : World} {H : Hp} {h : Heap} {D : Addr} {o : Obj} (hok : HOk P w H h) (e : H D = some (PinO D o)) : h.get? D = some o := by
  obtain ⟨z, _, _⟩ := hok D _ e
  exact z
/-- the pair at a tuple of two ints -/
def kv2 (H : Hp) : Value → Int × Int
  | .ref t => match H t with
    | some (.tup [.int a, .int b]) => (a, b)
    | _ => (0, 0)
  | _ => (0, 0)
theorem kv2_at {H : Hp} {t : Addr} {a b : Int} (h : H t = some (.tup [.int a, .int b])) : kv2 H (.ref t) = (a, b) := by
  show (match H t with
    | some (.tup [.int a, .int b]) => (a, b)
    | _ => (0, 0)) = (a, b)
  rw [h]
theorem vals_refs : ∀ {ts : List Addr} {us : List Value}, Vals (ts.map V.ref) us → us = ts.map Value.ref
  | [], _, .nil => rfl
  | t :: ts, _, .cons q r => by
    cases q
    rw [vals_refs r]
    rfl
theorem refs_vals : ∀ (ts : List Addr), Vals (ts.map V.ref) (ts.map Value.ref)
  | [] => .nil
  | t :: ts => .cons rfl (refs_vals ts)
section
variable {X : Cx} {pins : List (Addr × Obj)} {σ : L2.St} {H : Hp} {s : Shared}
/-- what a key's call gives: a new pair of ints -/
def KeyQ (k : Int → Int × Int) (n : Int) (H : Hp) : VK := fun z H4 => ∃ t, z = .ref t ∧ Same H H4 ∧ H4 t = some (.tup [.int (k n).1, .int (k n).2])
/-- pairs (key, item) sorted by the keys: the items -/
theorem out_items {its : List Value} {ns : List Int} {ts : List Addr} {k : Int → Int × Int} {kv : Value → Int × Int} (hi : IntsAre its ns) (hl : ts.length = ns.length) (hk : ∀ (j : Nat) (t : Addr), ts[j]? = some t → ∃ n, ns[j]? = some n ∧ kv (.ref t) = k n)
    {xs : List Keyed} (hs : SrtO.Srtd (SrtO.lt2 fun v u => SrtO.lexB (kv v) (kv u)) xs) (hp : xs.Perm ((ts.map Value.ref).zip its)) :
    IntsAre (xs.map (·.2)) ((xs.map (·.2)).map SrtO.iv) ∧ ((xs.map (·.2)).map SrtO.iv).Perm ns ∧ ((xs.map (·.2)).map SrtO.iv).Pairwise (fun m n => SrtO.lexB (k n) (k m) = false) := by
  have hli := hi.length
  have snd : ((ts.map Value.ref).zip its).map (·.2) = its := List.map_snd_zip (by rw [List.length_map]; omega)
  have p2 : (xs.map (·.2)).Perm its := by
    have := hp.map (·.2)
    rw [snd] at this
    exact this
  have key : ∀ p ∈ xs, kv p.1 = k (SrtO.iv p.2) := fun p hm => by
    have hz := hp.mem_iff.mp hm
    obtain ⟨j, hj⟩ := List.mem_iff_getElem?.mp hz
    rw [List.getElem?_zip_eq_some] at hj
    obtain ⟨h1, h2⟩ := hj
    rw [List.getElem?_map] at h1
    cases et : ts[j]? with
    | none => rw [et] at h1; cases h1
    | some t =>
      rw [et] at h1
      have e1 : Value.ref t = p.1 := Option.some.inj h1
      obtain ⟨n, hn, ek⟩ := hk j t et
      rw [← e1, ek]
      have e2 := SrtO.iv_ints hi
      have e3 : (its.map SrtO.iv)[j]? = some (SrtO.iv p.2) := by
        rw [List.getElem?_map, h2]
        rfl
      rw [e2, hn] at e3
      rw [Option.some.inj e3]
  refine ⟨SrtO.ints_iv fun v hv => SrtO.ints_mem hi v (p2.mem_iff.mp hv), ?_, ?_⟩
  · have := p2.map SrtO.iv
    rw [SrtO.iv_ints hi] at this
    exact this
  · rw [List.map_map, List.pairwise_map]
    refine hs.imp_of_mem fun {p r} hp' hr' h => ?_
    have h' : SrtO.lexB (kv r.1) (kv p.1) = false := h
    show SrtO.lexB (k (SrtO.iv r.2)) (k (SrtO.iv p.2)) = false
    rw [← key p hp', ← key r hr']
    exact h'
theorem sorted_lam {l f : Addr} {ns : List Int} {k : Int → Int × Int} {Q : VK} (I : Inv X pins σ H s) (hs : SqL X.K H l (ns.map V.int))
    (run : ∀ n ∈ ns, ∀ (s' : Shared) (H' : Hp) (u : Value), Inv X pins σ H' s' → Same H H' → RelV (.int n) u → wpAny (model X.prog X.w) X.A.in1.in1 (call (.ref f) [u]) (EP X pins σ (KeyQ k n H')) (fun _ _ => False) s')
    (q : ∀ (ns' : List Int) (p : Addr) (H5 : Hp), ns'.Perm ns → ns'.Pairwise (fun m n => SrtO.lexB (k n) (k m) = false) → Same H H5 → H p = none → H5 p = some (.lst (ns'.map V.int)) → Q (.ref p) H5) :
    wpAny (model X.prog X.w) X.A (call (.builtin "sorted") [.ref l] [(Str.ofString "key", .ref f)]) (EP X pins σ Q) X.xe s := by
  obtain ⟨its, rv, hl, hz⟩ := I.list hs
  have hi := rv.ints
  have hli := hi.length
  have hZ : its.length ≤ sizeLine := by rw [← rv.length]; exact hz
  refine PySem.W.sorted_of_sort hl.isList hZ (ksk_s1 _ _) (fun _ => ksk_l1 _ _) fun E' => ?_
  rw [ksk_t1]
  unfold ksk_tree
  have ho := PySem.W.copyHeap_at s.heap its
  have szC : (PySem.W.copyHeap s.heap its).objs.size = s.heap.objs.size + 2 := by
    unfold PySem.W.copyHeap
    rw [size_push', Heap.size_update, size_push']
  refine wpAny_bind (listItems_at ho rfl ?_)
  refine wpAny_bind (listUpdate_at ho rfl ?_ (by rw [List.size_toArray]; exact hZ) (Nat.zero_le _))
  obtain ⟨e1, ho1⟩ : ∃ e1, ((PySem.W.copyHeap s.heap its).update (s.heap.objs.size + 1) (Obj.mapSeq fun _ => (#[] : Array Value))).get? (s.heap.objs.size + 1) = some (seqObj "list" #[] e1) := ⟨_, get?_update_seq ho fun _ => #[]⟩
  generalize hA : (PySem.W.copyHeap s.heap its).update (s.heap.objs.size + 1) (Obj.mapSeq fun _ => (#[] : Array Value)) = hpA at ho1
  have szA : hpA.objs.size = s.heap.objs.size + 2 := by rw [← hA, Heap.size_update, szC]
  have oldA : ∀ d o, s.heap.get? d = some o → hpA.get? d = some o := fun d o e => by
    rw [← hA, Heap.get?_update_ne _ _ _ _ (Nat.ne_of_lt (Nat.lt_succ_of_lt (Heap.lt_size e)))]
    exact PySem.W.copyHeap_old e
  have nD : H (s.heap.objs.size + 1) = none := I.hok.fresh (Nat.le_succ _)
  have IA : Inv X pins σ (upd H (s.heap.objs.size + 1) (PinO (s.heap.objs.size + 1) (seqObj "list" #[] e1))) { s with heap := hpA, toks := s.toks } := I.laid (t' := s.toks) oldA (Nat.le_succ _) (pinO_ok ho1)
  generalize hDd : s.heap.objs.size + 1 = D at ho1 nD IA
  refine wpAny_bind (seqEpoch_at ho1 rfl ?_)
  refine wpAny_bind (wpAny_newTuple ?_ (by show its.length ≤ _; exact hZ))
  refine wpAny_bind (wpAny_newList ?_ (Nat.zero_le _))
  refine wpAny_holding ?_
  have hka : (hpA.push (seqObj "tuple" its.toArray 0)).objs.size = s.heap.objs.size + 3 := by rw [size_push', szA]
  have IB : Inv X pins σ (upd (upd H D (PinO D (seqObj "list" #[] e1))) (hpA.push (seqObj "tuple" its.toArray 0)).objs.size (.lst [])) { s with heap := (hpA.push (seqObj "tuple" its.toArray 0)).push (seqObj "list" #[] 0), toks := s.toks } := by
    refine IA.laid (t' := s.toks) (fun d o e => Heap.get?_push_of_some _ (Heap.get?_push_of_some _ e)) ?_ ⟨Nat.zero_le _, [], 0, .nil, Heap.get?_push_size _ rfl⟩
    show hpA.objs.size ≤ _
    rw [hka, szA]
    omega
  have nK : H (hpA.push (seqObj "tuple" its.toArray 0)).objs.size = none := I.hok.fresh (by rw [hka]; omega)
  have nDK : D ≠ (hpA.push (seqObj "tuple" its.toArray 0)).objs.size := by rw [hka, ← hDd]; omega
  show wpAny _ _ (ksk_rest D (.ref f) false its.toArray e1 (.ref (hpA.push (seqObj "tuple" its.toArray 0)).objs.size)) _ _ { s with heap := (hpA.push (seqObj "tuple" its.toArray 0)).push (seqObj "list" #[] 0), toks := s.toks }
  generalize (hpA.push (seqObj "tuple" its.toArray 0)).objs.size = kS at IB nK nDK
  generalize { s with heap := (hpA.push (seqObj "tuple" its.toArray 0)).push (seqObj "list" #[] 0), toks := s.toks } = sB at IB
  unfold ksk_rest
  refine wpAny_bind (wpAny_rule ?_)
  rw [List.forIn_toArray]
  refine wpAny_bind (ksk_fold (fun i s' => ∃ (H' : Hp) (ts : List Addr), Inv X pins σ H' s' ∧ Same H H' ∧ H' D = some (PinO D (seqObj "list" #[] e1)) ∧ H' kS = some (.lst (ts.map V.ref)) ∧ ts.length = i ∧
      ∀ (j : Nat) (t : Addr), ts[j]? = some t → ∃ n, ns[j]? = some n ∧ H' t = some (.tup [.int (k n).1, .int (k n).2])) its 0 sB
    ⟨_, [], IB, same_upd (same_upd (Same.refl H) nD) nK, by rw [upd_ne nDK, upd_same], upd_same, rfl, fun j t e => by cases j <;> cases e⟩ ?step ?done)
  case step =>
    rintro j x s' hx ⟨H', ts, I', sm, hD', hk', hln, hts⟩
    simp only [Nat.zero_add] at hln ⊢
    obtain ⟨n, hn, r⟩ : ∃ n, ns[j]? = some n ∧ RelV (.int n) x := by
      have hj : j < ns.length := by
        have := (List.getElem?_eq_some_iff.mp hx).1
        omega
      have en : ns[j]? = some ns[j] := List.getElem?_eq_getElem hj
      obtain ⟨u, hu, ru⟩ := rv.get (show (ns.map V.int)[j]? = some (V.int ns[j]) by rw [List.getElem?_map, en]; rfl)
      have : u = x := Option.some.inj (hu.symm.trans hx)
      subst this
      exact ⟨_, en, ru⟩
    refine wpAny_bind (wpAny_attempt (wpAny_mono (run n (List.mem_of_getElem? hn) s' H' x I' sm r) (fun v s'' he => ?_) fun _ _ hF => hF.elim))
    obtain ⟨z, H4, I4, rz, t, rfl, sm4, ht⟩ := he
    cases rz
    have hk4 := sm4 _ _ hk'
    obtain ⟨hz4, its4, n4, rv4, hob4⟩ := I4.hok kS _ hk4
    have l4 : its4.length = j := by
      rw [← rv4.length, List.length_map, hln]
    have lj : j < its.length := (List.getElem?_eq_some_iff.mp hx).1
    dsimp only
    refine wpAny_bind (listUpdate_at hob4 rfl ?_ (by rw [List.size_toArray]; omega) (by rw [Array.size_push, List.size_toArray]; omega))
    obtain ⟨c2, hc2⟩ : ∃ c2, (s''.heap.update kS (Obj.mapSeq (·.push (Value.ref t)))).get? kS = some (seqObj "list" (its4.toArray.push (Value.ref t)) c2) := ⟨_, get?_update_seq hob4 (·.push (Value.ref t))⟩
    have tk : t ≠ kS := ne_of ht hk4 (by intro z; cases z)
    have tD : D ≠ kS := nDK
    refine wpAny_pure ⟨rfl, upd H4 kS (.lst ((ts ++ [t]).map V.ref)), ts ++ [t], I4.write (e := kS) (t' := s''.toks) (by rw [hk4]; trivial) (.inl rfl) (fun d u hb hu => ?_) ⟨_, hc2⟩ ⟨?_, its4 ++ [Value.ref t], c2, ?_, ?_⟩, ?_, ?_, upd_same, ?_, fun j' t' e' => ?_⟩
    · rw [Heap.get?_update_ne _ _ _ _ hb]
      exact hu
    · rw [List.length_map, List.length_append, hln]
      show j + 1 ≤ _
      omega
    · rw [List.map_append]
      exact rv4.append (.cons rfl .nil)
    · have e : (its4 ++ [Value.ref t]).toArray = its4.toArray.push (Value.ref t) := by simp
      rw [e]
      exact hc2
    · exact same_upd (fun d o e => sm4 d o (sm d o e)) nK
    · rw [upd_ne tD]
      exact sm4 _ _ hD'
    · rw [List.length_append, hln]
      rfl
    · by_cases c : j' < ts.length
      · rw [List.getElem?_append_left c] at e'
        obtain ⟨n', h1, h2⟩ := hts j' t' e'
        refine ⟨n', h1, ?_⟩
        have h3 := sm4 _ _ h2
        rw [upd_ne (ne_of h3 hk4 (by intro z; cases z))]
        exact h3
      · rw [List.getElem?_append_right (by omega)] at e'
        have ej : j' - ts.length = 0 := by
          have := (List.getElem?_eq_some_iff.mp e').1
          simp at this
          omega
        rw [ej] at e'
        have : t = t' := Option.some.inj e'
        subst this
        have : j' = j := by omega
        subst this
        exact ⟨n, hn, by rw [upd_ne tk]; exact ht⟩
  case done =>
    rintro s' ⟨H', ts, I', sm, hD', hk', hln, hts⟩
    simp only [Nat.zero_add] at hln
    obtain ⟨hz', itsK, nKo, rvK, hobK⟩ := I'.hok kS _ hk'
    have eK := vals_refs rvK
    subst eK
    have aD := pinO_at I'.hok hD'
    have hkv : ∀ (j : Nat) (t : Addr), ts[j]? = some t → ∃ n, ns[j]? = some n ∧ kv2 H' (.ref t) = k n := fun j t e => by
      obtain ⟨n, h1, h2⟩ := hts j t e
      exact ⟨n, h1, kv2_at h2⟩
    have hp : ∀ v ∈ ts.map Value.ref, Srt.IsPair s'.heap v (kv2 H' v).1 (kv2 H' v).2 := fun v hv => by
      obtain ⟨t, ht, rfl⟩ := List.mem_map.mp hv
      obtain ⟨j, hj⟩ := List.mem_iff_getElem?.mp ht
      obtain ⟨n, h1, h2⟩ := hts j t hj
      rw [kv2_at h2]
      obtain ⟨_, its2, r2, o, ho2, hc, n2, hd⟩ := I'.hok _ _ h2
      obtain ⟨u1, u2, rfl, ri, rj⟩ := vals2 r2
      obtain ⟨t1, rfl⟩ := ri
      obtain ⟨t2, rfl⟩ := rj
      exact ⟨t, o, t1, t2, n2, rfl, ho2, hc, hd⟩
    have fin : ∀ (st' : SortSt) (E'' : Value → Shared → Prop), SrtO.Srtd (SrtO.lt2 fun v u => SrtO.lexB (kv2 H' v) (kv2 H' u)) (arrOf st').toList → (arrOf st').toList.Perm ((ts.map Value.ref).zip its) → failedOf st' = none →
        wpAny (model X.prog X.w) X.A.in1.in1 (ksk_tail D false e1 (.ref kS) st') (fun f' s' => f' = .done (.ret .none) ∧ EP X pins σ Q (.ref D) s') E'' s' := fun st' E'' h1 h2 h3 => by
      obtain ⟨g1, g2, g3⟩ := out_items hi (by omega) hkv h1 h2
      have es : ((arrOf st').map (·.2)).toList = (arrOf st').toList.map (·.2) := by rw [Array.toList_map]
      have ln : ((arrOf st').map (·.2)).size ≤ sizeLine := by
        rw [← Array.length_toList, es, ← List.length_map (f := SrtO.iv), g2.length_eq]
        omega
      unfold ksk_tail
      dsimp only
      have aD1 : (s'.heap.update kS (Obj.mapSeq fun _ => (#[] : Array Value))).get? D = some (seqObj "list" #[] e1) := by
        rw [Heap.get?_update_ne _ _ _ _ nDK]
        exact aD
      obtain ⟨c1, hc1⟩ : ∃ c1, (s'.heap.update kS (Obj.mapSeq fun _ => (#[] : Array Value))).get? kS = some (seqObj "list" #[] c1) := ⟨_, get?_update_seq hobK fun _ => #[]⟩
      have I1 : Inv X pins σ (upd H' kS (.lst [])) { s' with heap := s'.heap.update kS (Obj.mapSeq fun _ => (#[] : Array Value)), toks := s'.toks } :=
        I'.write (e := kS) (t' := s'.toks) (by rw [hk']; trivial) (.inl rfl) (fun d u hb hu => by rw [Heap.get?_update_ne _ _ _ _ hb]; exact hu) ⟨_, hc1⟩ ⟨Nat.zero_le _, [], c1, .nil, hc1⟩
      refine wpAny_bind (listUpdate_at hobK rfl ?_ (by rw [List.size_toArray, List.length_map]; omega) (Nat.zero_le _))
      refine wpAny_bind (wpAny_letGo ?_)
      refine wpAny_bind (seqEpoch_at aD1 rfl ?_)
      refine wpAny_bind (listUpdate_at aD1 rfl ?_ (Nat.zero_le _) (by show ((arrOf st').map (·.2)).size ≤ _; omega))
      rw [h3]
      simp only [bne_self_eq_false, Bool.false_eq_true, if_false]
      obtain ⟨c3, hc3⟩ : ∃ c3, ((s'.heap.update kS (Obj.mapSeq fun _ => (#[] : Array Value))).update D (Obj.mapSeq fun _ => (arrOf st').map (·.2))).get? D = some (seqObj "list" ((arrOf st').map (·.2)) c3) := ⟨_, get?_update_seq aD1 fun _ => (arrOf st').map (·.2)⟩
      have hD1 : upd H' kS (.lst []) D = some (PinO D (seqObj "list" #[] e1)) := by rw [upd_ne nDK]; exact hD'
      have I2 := I1.write (x := D) (e := D) (o := .lst ((((arrOf st').toList.map (·.2)).map SrtO.iv).map V.int)) (h' := (s'.heap.update kS (Obj.mapSeq fun _ => (#[] : Array Value))).update D (Obj.mapSeq fun _ => (arrOf st').map (·.2))) (t' := s'.toks) (by rw [hD1]; trivial) (.inl rfl)
        (fun d u hb hu => by rw [Heap.get?_update_ne _ _ _ _ hb]; exact hu) ⟨_, hc3⟩ ⟨by rw [List.length_map, g2.length_eq]; omega, ((arrOf st').map (·.2)).toList, c3, by rw [es]; exact vals_of_ints g1, by rw [Array.toArray_toList]; exact hc3⟩
      exact wpAny_pure ⟨rfl, .ref D, _, I2, rfl, q _ D _ g2 g3 (same_upd (same_upd sm nK) nD) nD upd_same⟩
    refine wpAny_bind (listItems_at hobK rfl ?_)
    unfold ksk_end
    dsimp only
    simp only [Bool.false_eq_true, if_false]
    have szI : its.toArray.size = its.length := List.size_toArray ..
    have ez := ksk_zip (ts.map Value.ref).toArray its
    by_cases h2 : its.toArray.size < 2
    · rw [if_pos h2, if_pos h2]
      refine wpAny_bind (wpAny_pure ?_)
      rw [StateT.run_pure]
      refine wpAny_bind (wpAny_pure ?_)
      dsimp only
      refine fin (SortSt.mk' general' ((ts.map Value.ref).toArray.zip its.toArray) #[] 7 none) _ ?_ ?_ rfl
      · show SrtO.Srtd _ ((ts.map Value.ref).toArray.zip its.toArray).toList
        have hl1 : ((ts.map Value.ref).toArray.zip its.toArray).toList.length ≤ 1 := by
          rw [ez, List.length_zip]
          omega
        generalize ((ts.map Value.ref).toArray.zip its.toArray).toList = zs at hl1
        match zs, hl1 with
        | [], _ => exact List.Pairwise.nil
        | [z], _ => exact List.pairwise_singleton _ _
      · show ((ts.map Value.ref).toArray.zip its.toArray).toList.Perm _
        rw [ez]
    · rw [if_neg h2, if_neg h2]
      obtain ⟨κ, hkind, hT⟩ := SrtO.pairs_sortableO (prog := X.prog) (w := X.w) (A := X.A.in1.in1) (a := D) (s := s') (vs := ts.map Value.ref) (k := kv2 H') (by rw [List.length_map]; omega) hp (fun o e => by
        rw [aD] at e
        cases e
        exact fun z => absurd (Value.type.inj z) (by decide)) s'.heap (fun _ _ _ e => e)
      refine wpAny_bind (hkind _ _ ?_)
      have hall : SrtO.AllL (fun p : Keyed => p.1 ∈ ts.map Value.ref) ((ts.map Value.ref).toArray.zip its.toArray).toList := fun p hm => by
        rw [ez] at hm
        exact (List.of_mem_zip (a := p.1) (b := p.2) hm).1
      refine wpAny_bind (wpAny_mono (SrtO.wpS_sortO (st0 := SortSt.mk' κ ((ts.map Value.ref).toArray.zip its.toArray) #[] 7 none)
        (Q := fun _ st' => SrtO.Srtd (SrtO.lt2 fun v u => SrtO.lexB (kv2 H' v) (kv2 H' u)) (arrOf st').toList ∧ SrtO.Stb (SrtO.lt2 fun v u => SrtO.lexB (kv2 H' v) (kv2 H' u)) (arrOf st').toList ((ts.map Value.ref).toArray.zip its.toArray).toList ∧ failedOf st' = none) (SrtO.swo2 (SrtO.swo_lex (kv2 H'))) hT rfl hall rfl rfl fun st' a1 a2 a3 => ⟨a1, a2, a3⟩) ?_ fun _ _ e => e)
      rintro ⟨⟨⟩, st'⟩ s'' ⟨rfl, hp1, hp2, hf⟩
      dsimp only
      exact fin st' _ hp1 (by rw [← ez]; exact hp2.perm) hf
end
end Er
set_option Elab.async false
set_option maxRecDepth 100000
set_option maxHeartbeats 4000000
set_option linter.unusedVariables false
set_option autoImplicit false
namespace Er
open PySem PySem.Spec PyProof.Rows L2
open LamX (CodeO TabS TabB ExtN inv_table among_app codeO_ne)
section
variable {X : Cx} {params : Arguments} {body : Expr} {scope : Scope} {lpos : Pos} {c P : Addr}
/-- the value of a lambda -/
def tLamV (P : Addr) (q : Str) (mk : Addr → Addr → HO) : TE := fun _ H Q => TabS H P q ∧ ∀ (f c' : Addr) (H1 : Hp), ExtN H H1 → (∀ d, H1 d = Option.none → H d = Option.none) → TabS H1 P q → H f = none → H1 f = some (mk f c') → H1 c' = some (CodeO c' q) → Q (.ref f) H1
theorem pe_lam (TB : TabB X.base X.mg c P) (hcode : X.env.code = .ref c) (hdef : defaultsOf params X.env = ([], [])) (hfree : ∀ y ∈ scope.names, y.2 = .free → X.env.scope.names.lookup y.1 = some .cell) :
    PE X (.Lambda params body scope lpos) (tLamV P (X.env.qual ++ "<lambda>") fun f c' => LamO f (X.env.qual ++ "<lambda>") params body scope (cloFrom X.env.cells scope.names []) c') := by
  refine ⟨fun pins s σ H Q I h => ?_⟩
  obtain ⟨hT, h⟩ := h
  exact lam_mk I TB hcode hT hdef (fun y hy e => I.ok.has _ (.inl (hfree y hy e))) fun f c' H1 s' I1 e1 e2 t1 n1 f1 c1 => ⟨.ref f, H1, I1, rfl, h f c' H1 e1 e2 t1 n1 f1 c1⟩
theorem sqL_extN {K : PySem.W.Frag} {H H' : Hp} {a : Addr} {xs : List V} (e : ExtN H H') (h : SqL K H a xs) : SqL K H' a xs := by
  rcases h with (h | ⟨o, h⟩) | h
  · exact .inl (.inl (e a _ h fun ps z => by cases z))
  · exact .inl (.inr ⟨o, e a _ h fun ps z => by cases z⟩)
  · exact .inr h
def tSortLam (K : PySem.W.Frag) (P : Addr) (q : Str) (i : Nat) (tb : TE) (te : TE) : TE := fun σ H Q => te σ H fun x0 H1 =>
  ∃ (l : Addr) (ns : List Int) (v : V) (k : Int → Int × Int), x0 = .ref l ∧ SqL K H1 l (ns.map V.int) ∧ TabS H1 P q ∧ σ[i]? = some (some v) ∧
    ∀ H2, ExtN H1 H2 → (∀ d, H2 d = Option.none → H1 d = Option.none) → TabS H2 P q →
      (∀ n ∈ ns, ∀ H3, Same H2 H3 → tb [some (.int n), some v] H3 (KeyQ k n H3)) ∧
      ∀ (ns' : List Int) (p : Addr) (H5 : Hp), ns'.Perm ns → ns'.Pairwise (fun m n => SrtO.lexB (k n) (k m) = false) → Same H2 H5 → H2 p = none → H5 p = some (.lst (ns'.map V.int)) → Q (.ref p) H5
theorem pe_sortLam {e : Expr} {te tb : TE} {p kpos pos : Pos} {a y : Str} {i k0 : Nat} (hg : Gl X "sorted") (hm : X.mg "sorted" = none) (hb : bootBuiltins "sorted" = some (.builtin "sorted")) (ha : PA X [e] (tCons te tNil)) (TB : TabB X.base X.mg c P) (hcode : X.env.code = .ref c) (hr : Room (k0 + 3) X.A)
    (L : Lam1 X.env.scope scope a y) (hN : X.N[i]? = some y) (hdef : defaultsOf params X.env = ([], []))
    (hbind : ∀ (q : Str) (cl : List (Str × Addr)) (pm cv ctv u : Value), bindArgs (PySem.W.kla_fn "<lambda>" q params body scope cl pm cv ctv) ⟨[u], []⟩ = pure [(a, u)])
    (hbody : ∀ (A : Around) (s : Shared) (H : Hp) (f c' : Addr), Room k0 (A.deeper (LamX.lamEnv X scope s.heap.objs.size f c')) → PE (lamC X A a y s H scope f c') body tb)
    (hst : backTo pos (starEach [e] X.env) = (false, eval e X.env) :: backTo pos (starEach [] X.env) := by rfl) (hpl : (backTo pos (starEach [e] X.env)).any (·.1) = false := by rfl) :
    PE X (.Call (.Name "sorted" p) [e] [⟨some "key", .Lambda params body scope lpos, kpos⟩] pos) (tSortLam X.K P (X.env.qual ++ "<lambda>") i tb te) := by
  refine ⟨fun pins s σ H Q I h => ?_⟩
  refine wpAny_Call_Name_kw (ld_blt I hg hm hb ?_)
  have lamP := pk_cons (kpos := kpos) (nm := some "key") (pe_lam (X := X) (params := params) (body := body) (scope := scope) (lpos := lpos) TB hcode hdef fun z hz ez => by
    have hz' : (z.1, NameKind.free) ∈ scope.names := by
      rw [← ez]
      exact hz
    rw [L.fr hz']
    exact L.cell) pk_nil
  refine PyProof.Rows.callWith_kw (thn (ha.run pos pins s σ H (fun vs H1 => match vs with
    | [x0] => ∃ (l : Addr) (ns : List Int) (v : V) (k : Int → Int × Int), x0 = .ref l ∧ SqL X.K H1 l (ns.map V.int) ∧ TabS H1 P (X.env.qual ++ "<lambda>") ∧ σ[i]? = some (some v) ∧
      ∀ H2, ExtN H1 H2 → (∀ d, H2 d = Option.none → H1 d = Option.none) → TabS H2 P (X.env.qual ++ "<lambda>") →
        (∀ n ∈ ns, ∀ H3, Same H2 H3 → tb [some (.int n), some v] H3 (KeyQ k n H3)) ∧
        ∀ (ns' : List Int) (p : Addr) (H5 : Hp), ns'.Perm ns → ns'.Pairwise (fun m n => SrtO.lexB (k n) (k m) = false) → Same H2 H5 → H2 p = none → H5 p = some (.lst (ns'.map V.int)) → Q (.ref p) H5
    | _ => False) I ?_) fun us s1 ⟨vs, H1, I1, r1, q1⟩ => ?_) hst hpl rfl rfl
  · exact h
  · match vs, q1 with
    | [x0], q1 =>
    obtain ⟨l, ns, v, k, rfl, hS, hT, hv, q⟩ := q1
    obtain ⟨u0, rfl, ru⟩ := vals1 r1
    cases ru
    refine thn (lamP.run pos pins s1 σ H1 (fun zs H2 => ∃ f c', zs = [.ref f] ∧ ExtN H1 H2 ∧ (∀ d, H2 d = Option.none → H1 d = Option.none) ∧ TabS H2 P (X.env.qual ++ "<lambda>") ∧ H2 f = some (LamO f (X.env.qual ++ "<lambda>") params body scope (cloFrom X.env.cells scope.names []) c') ∧ H2 c' = some (CodeO c' (X.env.qual ++ "<lambda>"))) I1
      ⟨hT, fun f c' H2 e1 e2 t2 n2 f2 c2 => ⟨f, c', rfl, e1, e2, t2, f2, c2⟩⟩) fun ws s2 ⟨zs, H2, I2, r2, q2⟩ => ?_
    obtain ⟨f, c', rfl, e1, e2, t2, f2, c2⟩ := q2
    obtain ⟨w0, rfl, rw0⟩ := vals1 r2
    cases rw0
    obtain ⟨q3, q4⟩ := q H2 e1 e2 t2
    show wpAny (model X.prog X.w) X.A (call (.builtin "sorted") [.ref l] [(Str.ofString "key", .ref f)]) (EP X pins σ Q) X.xe s2
    refine sorted_lam (k := k) I2 (sqL_extN e1 hS) (fun n hn s' H' u I' sm ru => ?_) q4
    have hr1 : Room (k0 + 1) X.A.in1.in1 := (hr.in1).in1
    exact lam_run I' hN hv L (sm _ _ f2) (sm _ _ c2) I'.env0.in1.in1 hr1 (fun pm ctv => hbind _ _ _ _ _ _) (hbody _ _ _ _ _ (hr1.deeper _)) ru (q3 n hn H' sm)
end
end Er
set_option Elab.async false
set_option maxRecDepth 100000
set_option maxHeartbeats 4000000
set_option linter.unusedVariables false
set_option autoImplicit false
namespace Er
open PySem PySem.Spec PyProof.Rows L2
open LamX (CodeO TabS TabB ExtN inv_table among_app codeO_ne)
open PySem.W (WData Codec OpenSpec Well WellAll ReadsW ReadsAllW)
/-- the row's def is called, one table of code objects laid aside -/
theorem spec_tab {Pr : Program} {w : World} {K : PySem.W.Frag} {mg mb : Str → Option Value} {k : Nat} {fa c P : Addr} {fd : FuncData} {ps : List Str} {sp : Sp} {s₁ : Shared} {vals : List Value} {ds : List WData} {R : PySem.W.WRecords} {cl : Str → Option Addr} {d0 : WData}
    (KX : K.In s₁.heap) (hns : s₁.heap.Ns mainGlobals mg) (hb : s₁.heap.Ns builtinsNs mb) (hbb : ∀ x : Str, x ≠ "__name__" → mb x = bootBuiltins x) (hlim : s₁.heap.NoLimit) (hg : s₁.gens = #[])
    (hT : s₁.heap.get? P = some { cls := .none, data := .fields #[] }) (nT : K.lookup P = none) (C : PySem.W.CodeHd s₁.heap c P)
    (hbm : ∃ (bm : Addr) (ob : Obj), mg "__builtins__" = some (.ref bm) ∧ bm ≠ builtinsNs ∧ s₁.heap.get? bm = some ob ∧ ob.cls = .type "module" ∧ ob.dict = some builtinsNs ∧ ob.data = .plain)
    (hwl : WellAll w.params s₁.heap vals ds) (hpl : plWs ds = true) (hwt : ∀ d ∈ ds, d.weight ≤ 1048576) (hr : Room k callerA)
    (F : ∀ base : Heap, K.In base → base.Ns mainGlobals mg → TabB base mg c P → FnOk Pr w K mg base CX0 k fa fd ps sp) (hbind : ∀ (s : Shared) (us : List Value), us.length = ps.length → BindsTo s fd ⟨us, []⟩ (ps.zip us)) (hlen : ds.length = ps.length)
    (hsp : ∀ (H0 H : Hp) (xs : List V), DwAll K H0 xs ds → (∀ b o, H0 b = some o → H b = some o) → H P = some (.tbl #[]) → sp xs H (fun v H' => Dw K H' v d0) fun _ _ _ => False) :
    codeAny (model Pr w) callerA (.call (.ref fa) ⟨vals, []⟩) (fun r s' => ∃ u as, r = .ok (.ret u) ∧ ReadsW R cl s'.heap u d0 as ∧ OldK s₁.heap s'.heap ∧ s'.os = s₁.os ∧ AllBare s'.gens) s₁ := by
  obtain ⟨A, ho, ar⟩ := area_all ds vals hwl hpl hwt
  have hO : OnlyF (argH K s₁.heap A) := argH_only ar
  have hok0 : HOk Pr w (argH K s₁.heap A) s₁.heap := argH_ok ar
  have hS := dw_all KX ar ds vals hwl hpl ho
  have hV := vals_toV ho
  have hK0 : ∀ b u, argH K s₁.heap A b = some u → K.lookup b = none := fun b u q => (argH_is ar q).1
  -- what is tracked of the arguments is a list or a tuple
  have isSeq : ∀ b u, argH K s₁.heap A b = some u → ∀ o, s₁.heap.get? b = some o → ∃ (n : String) (vs : Array Value), o.cls = .type n ∧ o.data = .seq vs 0 := fun b u q o e => by
    obtain ⟨_, vs, _, _, ⟨e2, _⟩ | ⟨e2, _⟩⟩ := argH_is ar q
    · rw [e2] at e
      cases e
      exact ⟨_, _, rfl, rfl⟩
    · rw [e2] at e
      cases e
      exact ⟨_, _, rfl, rfl⟩
  generalize argH K s₁.heap A = H0 at hO hok0 hS hK0 isSeq
  have nP : H0 P = none := by
    cases q : H0 P with
    | none => rfl
    | some u =>
      obtain ⟨n, vs, e1, e2⟩ := isSeq P u q _ hT
      cases e2
  have up : ∀ b o, H0 b = some o → upd H0 P (.tbl #[]) b = some o := fun b o e => by
    rw [upd_ne (ne_of_none e nP)]
    exact e
  have hok : HOk Pr w (upd H0 P (.tbl #[])) s₁.heap := fun b u e => by
    by_cases hb' : b = P
    · rw [hb', upd_same] at e
      cases e
      rw [hb']
      exact hT
    · rw [upd_ne hb'] at e
      exact (hok0 b u e).stay (fun _ _ _ z => z) (fun d z => up _ _ z) fun d xs z => up _ _ z
  have hO1 : ∀ b, upd H0 P (.tbl #[]) b = none ∨ b = P ∨ ∃ o u, upd H0 P (.tbl #[]) b = some (.frz o u) := fun b => by
    by_cases hb' : b = P
    · exact .inr (.inl hb')
    · rw [upd_ne hb']
      rcases hO b with z | z
      · exact .inl z
      · exact .inr (.inr z)
  have hHP : upd H0 P (.tbl #[]) P = some (.tbl #[]) := upd_same
  have free : ∀ {b : Addr} {o : Obj}, s₁.heap.get? b = some o → (∀ vs, o.data ≠ .seq vs 0) → o.data ≠ .fields #[] → upd H0 P (.tbl #[]) b = none := fun {b o} e h1 h2 => by
    by_cases hb' : b = P
    · rw [hb', hT] at e
      cases e
      exact (h2 rfl).elim
    · rw [upd_ne hb']
      cases q : H0 b with
      | none => rfl
      | some u =>
        obtain ⟨n, vs, _, e2⟩ := isSeq b u q o e
        exact (h1 _ e2).elim
  have hK : ∀ b o, K.lookup b = some o → upd H0 P (.tbl #[]) b = none := fun b o e => by
    by_cases hb' : b = P
    · rw [hb', nT] at e
      cases e
    · rw [upd_ne hb']
      cases q : H0 b with
      | none => rfl
      | some u =>
        rw [hK0 b u q] at e
        cases e
  have hSP := hsp H0 (upd H0 P (.tbl #[])) _ hS up hHP
  generalize upd H0 P (.tbl #[]) = H at hok hO1 hHP free hK hSP
  have base_of : ∀ {b : Addr} {o : Obj}, s₁.heap.get? b = some o → H b = none → (hidT s₁.heap H).get? b = some o := fun e n => hidT_get e n
  have nsK : ∀ {b : Addr} {m : Str → Option Value}, s₁.heap.Ns b m → (hidT s₁.heap H).Ns b m := fun {b m} ⟨o, es, ep, e, d, r⟩ =>
    ⟨o, es, ep, base_of e (free e (fun vs z => by rw [d] at z; cases z) fun z => by rw [d] at z; cases z), d, r⟩
  have hKb : K.In (hidT s₁.heap H) := fun b o e => base_of (KX b o e) (hK b o e)
  have hM : L2.Mod K mg (hidT s₁.heap H) := ⟨hKb, nsK hns, ⟨mb, nsK hb, hbb⟩, let ⟨mc, h1, h2⟩ := hlim; ⟨mc, nsK h1, h2⟩⟩
  have TB : TabB (hidT s₁.heap H) mg c P := by
    refine ⟨?_, ?_, fun z => ?_⟩
    · obtain ⟨o, us, file, tf, flags, tg, inF, text, tt, e1, r1, r2, r3, r4⟩ := C
      refine ⟨o, us, file, tf, flags, tg, inF, text, tt, base_of e1 (free e1 (fun vs z => ?_) fun z => ?_), r1, r2, r3, r4⟩
      · rw [r2] at z
        cases z
      · rw [r2] at z
        cases z
        simp at r3
    · obtain ⟨bm, ob, b1, b2, b3, b4, b5, b6⟩ := hbm
      have nG : bm ≠ mainGlobals := fun q => by
        obtain ⟨o, es, ep, e, hd, _⟩ := hns
        rw [q, e] at b3
        cases b3
        rw [hd] at b6
        cases b6
      have nP' : bm ≠ P := fun q => by
        rw [q, hT] at b3
        cases b3
        cases b6
      exact ⟨bm, ob, b1, b2, nG, nP', base_of b3 (free b3 (fun vs z => by rw [b6] at z; cases z) fun z => by rw [b6] at z; cases z), b4, b5, b6⟩
    · obtain ⟨o, es, ep, e, hd, _⟩ := hns
      rw [z, hT] at e
      cases e
      cases hd
  have e0 : Env0 Pr w K mg (hidT s₁.heap H) callerA [] s₁ H := ⟨rfl, hM, fun b o e => of_hidT e, Nat.le_of_eq (hidT_size _ _), trivial, fun b z => absurd (show b ∈ ([] : List Addr) from z) (by simp), hok, .of_eq hg⟩
  have hl : vals.length = ps.length := by rw [wellAll_len hwl]; exact hlen
  refine codeAny_mono ((F _ hKb (nsK hns) TB).run callerA [] s₁ H ⟨vals, []⟩ vals (vals.map toV) _ _ hr e0 (hbind s₁ vals hl) hV hSP) fun r s' x => ?_
  cases r with
  | error e => exact (show False from x).elim
  | ok fl =>
    cases fl with
    | next => exact False.elim x
    | brk => exact False.elim x
    | cont => exact False.elim x
    | ret u =>
      obtain ⟨v, H', os, bare, un, hok', r', q⟩ := x
      have kept : ∀ b o, b ≠ P → s₁.heap.get? b = some o → s'.heap.get? b = some o := fun b o nb e => by
        cases q2 : H b with
        | none => exact un.keep b o e q2 (fun z => absurd (show b ∈ ([] : List Addr) from z) (by simp)) (by simp)
        | some u2 =>
          rcases hO1 b with z | z | ⟨ob, u3, z⟩
          · rw [q2] at z
            cases z
          · exact absurd z nb
          · have z2 := un.frzs b ob _ z
            obtain ⟨e1, _⟩ := hok b _ z
            obtain ⟨e2, _⟩ := hok' b _ z2
            rw [e] at e1
            cases e1
            exact e2
      obtain ⟨more, hmore⟩ := un.tbls P #[] hHP
      have hTP : s'.heap.get? P = some { cls := .none, data := .fields (#[] ++ more) } := hok' P _ hmore
      have KX' : K.In s'.heap := fun b o e => kept b o (fun z => by rw [z, nT] at e; cases e) (KX b o e)
      obtain ⟨as, hrd⟩ := Dw.reads (R := R) (cl := cl) hok' KX' d0 v u q r'
      refine ⟨u, as, rfl, hrd, ⟨fun b o e => ?_, fun b o e => ?_⟩, os, bare⟩
      · by_cases hb' : b = P
        · rw [hb'] at e ⊢
          rw [hT] at e
          cases e
          exact .inr (.inl ⟨(C.tab hT).isCodeTable, rfl, #[], more, rfl, hTP⟩)
        · exact .inl (kept b o hb' e)
      · by_cases hb' : b = P
        · rw [hb']
          exact ⟨_, hTP⟩
        · exact ⟨o, kept b o hb' e⟩
/-- the head's goal, from the promise of the row's def, one table laid aside -/
theorem walk_tab {r : OpenSpec} {k : Nat} {q : Program} {loose : List Str} {XP : (Str → Option Value) → Heap → Prop} {YP : World → Heap → Prop} {d : DefRec} {K : Params → PySem.W.Frag} {ps : List Str} {sp : PySem.W.Frag → Addr → Sp}
    (hwell : r.wellSaid = true) (hdf : d.params.defaults = []) (hlen : r.args.length = ps.length) (hr : Room k callerA) (hY : ∀ (w : World) (h : Heap), YP w h → (K w.params).In h)
    (F : ∀ (w : World) (mg : Str → Option Value) (fa : Addr) (h : Heap), YP w h → (K w.params).In h → h.Ns mainGlobals mg → mg d.name = some (.ref fa) →
      ∃ (fd : FuncData) (c P : Addr), (∀ (s : Shared) (us : List Value), us.length = ps.length → BindsTo s fd ⟨us, []⟩ (ps.zip us)) ∧ h.get? P = some { cls := .none, data := .fields #[] } ∧ (K w.params).lookup P = none ∧ PySem.W.CodeHd h c P ∧
        ∀ base : Heap, (K w.params).In base → base.Ns mainGlobals mg → TabB base mg c P → FnOk r.prog w (K w.params) mg base CX0 k fa fd ps (sp (K w.params) P))
    (hsp : ∀ (K : PySem.W.Frag) (P : Addr) (H0 H : Hp) (xs : List V) (a : Codec.denoteAll r.args), Codec.withinAll r.args a = true → Codec.app r.args r.asked a = true → DwAll K H0 xs (Codec.encAll r.args a) → (∀ b o, H0 b = some o → H b = some o) → H P = some (.tbl #[]) →
      sp K P xs H (fun v H' => Dw K H' v (r.ret.enc (Codec.app r.args r.f a))) fun _ _ _ => False) :
    PySem.W.WalkOS q loose XP YP r d [] (fun f vs => PySem.call f vs) := by
  intro w s₀ s₁ mg mb G Y fa o pm cd doc dV kV ho hd hcd hD hmg hg args vals as hpre hlay hrd hwl hlo
  obtain ⟨a, e1, e2⟩ := PySem.W.os_pre_some hpre
  obtain ⟨e3, hwi⟩ := Codec.encAll_of_decAll r.args args a e1
  subst e3
  have KX := hY w _ Y
  obtain ⟨fd, c, P, hbd, hT, nT, C, hF⟩ := F w mg fa _ Y KX G.T.g hmg
  refine PySem.W.enter_call (codeAny_mono (spec_tab (R := []) (cl := classAt s₀.heap) (d0 := r.ret.enc (Codec.app r.args r.f a)) KX G.T.g G.T.b G.T.builtins G.T.nolimit hg hT nT C G.T.bmain hwl (pl_encAll _ _) (layable_weight hlay) hr hF hbd (by rw [encAll_len]; exact hlen)
    (fun H0 H xs hS up hP => hsp _ P H0 H xs a hwi e2 hS up hP)) fun r' s' hq => ?_)
  obtain ⟨u, as', rfl, h1, h2, h3, h4⟩ := hq
  exact ⟨.inl ⟨u, _, as', rfl, fun _ => rfl, h1, (OpenSpec.post_iff hwell hwi _ _).mpr rfl, fun z => Bool.noConfusion (show false = true from z)⟩, h2, h3, h4⟩
end Er
set_option Elab.async false
set_option maxRecDepth 100000
set_option maxHeartbeats 4000000
namespace Er
open PySem PySem.Spec PyProof.Rows L2
def top (i : Nat) : Stmt := PySem.Challenge.pw_erasedall_s01_answers.main.body.getD i (.Pass ⟨0, 0, 0, 0⟩)
abbrev sArePurposes : Stmt := top 31
abbrev sAreParts : Stmt := top 32
abbrev sItemInit : Stmt := inClass (top 33) 0
abbrev sIsGiven : Stmt := inClass (top 33) 1
abbrev sIsErased : Stmt := inClass (top 33) 2
abbrev sHasAll : Stmt := inClass (top 33) 3
abbrev sLose : Stmt := inClass (top 33) 4
abbrev sErase : Stmt := inClass (top 33) 5
abbrev sDeskInit : Stmt := inClass (top 34) 0
abbrev sErStart : Stmt := inClass (top 34) 1
abbrev sErGive : Stmt := inClass (top 34) 2
abbrev sErMake : Stmt := inClass (top 34) 3
abbrev sErUse : Stmt := inClass (top 34) 4
abbrev sErBack : Stmt := inClass (top 34) 5
abbrev sErPerson : Stmt := inClass (top 34) 6
abbrev sErDays : Stmt := inClass (top 34) 7
abbrev sErOf : Stmt := inClass (top 34) 8
abbrev sErWhy : Stmt := inClass (top 34) 9
abbrev sIsFull : Stmt := inClass (top 34) 10
abbrev sIsThere : Stmt := inClass (top 34) 11
abbrev sAllThere : Stmt := inClass (top 34) 12
abbrev sAllWith : Stmt := inClass (top 34) 13
abbrev sGivenThere : Stmt := inClass (top 34) 14
abbrev sOverByNow : Stmt := inClass (top 34) 15
abbrev sEraseAllWith : Stmt := inClass (top 34) 16
abbrev sKeep : Stmt := inClass (top 34) 17
abbrev sInsideMade : Stmt := inClass (top 34) 18
abbrev sPeopleOf : Stmt := inClass (top 34) 19
abbrev sEndOfCall : Stmt := top 35
abbrev sNumberTold : Stmt := top 36
abbrev sAnswerTo : Stmt := top 37
abbrev sAnswers : Stmt := top 38
end Er
set_option Elab.async false
set_option maxRecDepth 100000
set_option maxHeartbeats 4000000
set_option linter.unusedVariables false
set_option autoImplicit false
namespace Er
open PySem PySem.Spec PyProof.Rows L2
/-- the module's name x holds the whole number i -/
def GI (mg : Str → Option Value) (x : Str) (i : Int) : Prop := ∃ t, mg x = some (Value.int i t)
theorem pe_gi {X : Cx} {x : Str} {i : Int} {pos : Pos} (h : GI X.mg x i) (hg : Gl X x := by rfl) (hd : (x == ("__debug__" : Str)) = false := by decide) : PE X (.Name x pos) (tC (.int i)) := by
  obtain ⟨t, ht⟩ := h
  exact pe_glob hg ht ⟨t, rfl⟩ hd
structure Txt (K : PySem.W.Frag) (mg : Str → Option Value) (CI CD : Addr) : Prop where
  clI : Cls K CI
  clD : Cls K CD
  gI : mg "Item" = some (.ref CI)
  gD : mg "Desk" = some (.ref CD)
  nPerson : NoAttr K CI "person"
  nPurposes : NoAttr K CI "purposes"
  nUntil : NoAttr K CI "until"
  nInside : NoAttr K CI "inside"
  nWhy : NoAttr K CI "why"
  nBy : NoAttr K CI "by"
  nDay : NoAttr K CI "day"
  nMany : NoAttr K CD "many"
  nToday : NoAttr K CD "today"
  nKept : NoAttr K CD "kept"
  kABSENT : GI mg "ABSENT" 2
  kDENIED : GI mg "DENIED" 13
  kWRONG : GI mg "WRONG" 22
  kFULL : GI mg "FULL" 28
  kSTART : GI mg "ER_START" 0
  kGIVE : GI mg "ER_GIVE" 1
  kMAKE : GI mg "ER_MAKE" 2
  kUSE : GI mg "ER_USE" 3
  kBACK : GI mg "ER_BACK" 4
  kPERS : GI mg "ER_PERSON" 5
  kDAYS : GI mg "ER_DAYS" 6
  kWHY : GI mg "ER_WHY" 8
  kLEAST : GI mg "LEAST_MANY" 2
  kMOST : GI mg "MOST_MANY" 64
  kPERSON : GI mg "LAST_PERSON" 63
  kPURPOSE : GI mg "LAST_PURPOSE" 15
  kALL : GI mg "ALL_PURPOSES" 65535
  kDAY : GI mg "LAST_DAY" 100000
  kMDAYS : GI mg "MOST_DAYS" 366
  kITEMS : GI mg "MOST_ITEMS" 128
  kPARTS : GI mg "MOST_PARTS" 8
  kPLAIN : GI mg "PLAIN" 0
  kCOUNTED : GI mg "COUNTED" 1
  kFORM : GI mg "NUMBER_FORM" 0
  kWFORM : GI mg "WHY_FORM" 1
  kNOTE : GI mg "NOT_ERASED" 0
  kNOP : GI mg "NO_PURPOSES" 1
  kTAKEN : GI mg "ALL_TAKEN_BACK" 2
  kOVER : GI mg "WAS_OVER" 3
  bLen : mg "len" = none
  bSet : mg "set" = none
  bAll : mg "all" = none
  bList : mg "list" = none
  bSorted : mg "sorted" = none
  bRange : mg "range" = none
section
variable {P : Program} {w : World} {K : PySem.W.Frag} {mg : Str → Option Value} {base : Heap} {CI CD : Addr}

def spArePurposes : Sp := fun vs H Q _ => ∃ z : Int, vs = [.int z] ∧ Q (.bl (decide (1 ≤ z) && decide (z ≤ 65535))) H
theorem scAP : FnScope ["purposes"] ["purposes"] (defScope sArePurposes) := ⟨rfl, rfl, rfl, by decide +kernel, rfl, by decide +kernel, by decide +kernel⟩
theorem ok_arePurposes {f : Addr} {fd : FuncData} (F : Fun K "are_purposes" "are_purposes" sArePurposes f fd) (T : Txt K mg CI CD) : FnOk P w K mg base CX0 1 f fd ["purposes"] spArePurposes := by
  refine F.ok scAP (fun vs H Q E h => ?_) (fun cdv A outer s H vs Q E hr h => ?_)
  · obtain ⟨z, rfl, _⟩ := h
    rfl
  · obtain ⟨z, rfl, k⟩ := h
    refine ⟨_, pss_one (ps_ret (pe_and (pe_cmpR op_le pe_int (pv 0) (nomark _)) (pe_one (pe_cmpR op_le (pv 0) (pe_gi T.kALL) (nomark _))))), ?_⟩
    refine ⟨_, rfl, _, _, rfl, rfl, _, rfl, ?_⟩
    refine ite2 (fun c => ?_) (fun c => ?_)
    · refine ⟨_, rfl, _, _, rfl, rfl, ?_⟩
      rw [c] at k
      exact k
    · rw [Bool.not_eq_true] at c
      rw [c] at k
      exact k
end
end Er
set_option Elab.async false
set_option maxRecDepth 100000
set_option maxHeartbeats 4000000
set_option linter.unusedVariables false
set_option autoImplicit false
namespace Er
open PySem PySem.Spec PyProof.Rows L2
theorem lk_here {k : Str} {v : V} {r : List (Str × V)} : List.lookup k ((k, v) :: r) = some v := by
  have e : (k == k) = true := beq_self_eq_true k
  simp only [List.lookup, e]
theorem lk_past {k g : Str} {v : V} {r : List (Str × V)} (h : (k == g) = false) : List.lookup k ((g, v) :: r) = List.lookup k r := by
  simp only [List.lookup, h]
theorem put_here {f : Str} {v x : V} {r : List (Str × V)} : putF f v ((f, x) :: r) = (f, v) :: r := if_pos rfl
theorem put_past {f g : Str} {v x : V} {r : List (Str × V)} (h : ¬ g = f) : putF f v ((g, x) :: r) = (g, x) :: putF f v r := if_neg h
/-- an item's attributes, in the order in which they are set -/
def iF (person : V) (m : Int) (til : V) (li : Addr) (wy bb dy : Int) : List (Str × V) := [("person", person), ("purposes", .int m), ("until", til), ("inside", .ref li), ("why", .int wy), ("by", .int bb), ("day", .int dy)]
section
variable {pe til : V} {m wy bb dy : Int} {li : Addr}
theorem iF_person : (iF pe m til li wy bb dy).lookup ("person" : Str) = some (pe) := lk_here
theorem iF_purposes : (iF pe m til li wy bb dy).lookup ("purposes" : Str) = some (.int m) := (lk_past (by decide +kernel)).trans (lk_here)
theorem iF_until : (iF pe m til li wy bb dy).lookup ("until" : Str) = some (til) := (lk_past (by decide +kernel)).trans ((lk_past (by decide +kernel)).trans (lk_here))
theorem iF_inside : (iF pe m til li wy bb dy).lookup ("inside" : Str) = some (.ref li) := (lk_past (by decide +kernel)).trans ((lk_past (by decide +kernel)).trans ((lk_past (by decide +kernel)).trans (lk_here)))
theorem iF_why : (iF pe m til li wy bb dy).lookup ("why" : Str) = some (.int wy) := (lk_past (by decide +kernel)).trans ((lk_past (by decide +kernel)).trans ((lk_past (by decide +kernel)).trans ((lk_past (by decide +kernel)).trans (lk_here))))
theorem iF_by : (iF pe m til li wy bb dy).lookup ("by" : Str) = some (.int bb) := (lk_past (by decide +kernel)).trans ((lk_past (by decide +kernel)).trans ((lk_past (by decide +kernel)).trans ((lk_past (by decide +kernel)).trans ((lk_past (by decide +kernel)).trans (lk_here)))))
theorem iF_day : (iF pe m til li wy bb dy).lookup ("day" : Str) = some (.int dy) := (lk_past (by decide +kernel)).trans ((lk_past (by decide +kernel)).trans ((lk_past (by decide +kernel)).trans ((lk_past (by decide +kernel)).trans ((lk_past (by decide +kernel)).trans ((lk_past (by decide +kernel)).trans (lk_here))))))
theorem iF_no {k : Str} (h0 : (k == "person") = false) (h1 : (k == "purposes") = false) (h2 : (k == "until") = false) (h3 : (k == "inside") = false) (h4 : (k == "why") = false) (h5 : (k == "by") = false) (h6 : (k == "day") = false) : (iF pe m til li wy bb dy).lookup k = none :=
  (lk_past h0).trans ((lk_past h1).trans ((lk_past h2).trans ((lk_past h3).trans ((lk_past h4).trans ((lk_past h5).trans ((lk_past h6).trans (rfl)))))))
theorem iF_putP {y : Int} : putF "purposes" (.int y) (iF pe m til li wy bb dy) = iF pe y til li wy bb dy := (put_past (by decide +kernel)).trans (congrArg _ (put_here))
theorem iF_putW {y : Int} : putF "why" (.int y) (iF pe m til li wy bb dy) = iF pe m til li y bb dy := (put_past (by decide +kernel)).trans (congrArg _ ((put_past (by decide +kernel)).trans (congrArg _ ((put_past (by decide +kernel)).trans (congrArg _ ((put_past (by decide +kernel)).trans (congrArg _ (put_here))))))))
theorem iF_putB {y : Int} : putF "by" (.int y) (iF pe m til li wy bb dy) = iF pe m til li wy y dy := (put_past (by decide +kernel)).trans (congrArg _ ((put_past (by decide +kernel)).trans (congrArg _ ((put_past (by decide +kernel)).trans (congrArg _ ((put_past (by decide +kernel)).trans (congrArg _ ((put_past (by decide +kernel)).trans (congrArg _ (put_here))))))))))
theorem iF_putD {y : Int} : putF "day" (.int y) (iF pe m til li wy bb dy) = iF pe m til li wy bb y := (put_past (by decide +kernel)).trans (congrArg _ ((put_past (by decide +kernel)).trans (congrArg _ ((put_past (by decide +kernel)).trans (congrArg _ ((put_past (by decide +kernel)).trans (congrArg _ ((put_past (by decide +kernel)).trans (congrArg _ ((put_past (by decide +kernel)).trans (congrArg _ (put_here))))))))))))
theorem iF_new : putF "day" (.int dy) (putF "by" (.int bb) (putF "why" (.int wy) (putF "inside" (.ref li) (putF "until" (til) (putF "purposes" (.int m) (putF "person" (pe) [])))))) = iF pe m til li wy bb dy := by
  have e1 : putF "purposes" (.int m) ([("person", pe)] : List (Str × V)) = ([("person", pe), ("purposes", .int m)] : List (Str × V)) := (put_past (by decide +kernel)).trans (rfl)
  have e2 : putF "until" (til) ([("person", pe), ("purposes", .int m)] : List (Str × V)) = ([("person", pe), ("purposes", .int m), ("until", til)] : List (Str × V)) := (put_past (by decide +kernel)).trans (congrArg _ ((put_past (by decide +kernel)).trans (rfl)))
  have e3 : putF "inside" (.ref li) ([("person", pe), ("purposes", .int m), ("until", til)] : List (Str × V)) = ([("person", pe), ("purposes", .int m), ("until", til), ("inside", .ref li)] : List (Str × V)) := (put_past (by decide +kernel)).trans (congrArg _ ((put_past (by decide +kernel)).trans (congrArg _ ((put_past (by decide +kernel)).trans (rfl)))))
  have e4 : putF "why" (.int wy) ([("person", pe), ("purposes", .int m), ("until", til), ("inside", .ref li)] : List (Str × V)) = ([("person", pe), ("purposes", .int m), ("until", til), ("inside", .ref li), ("why", .int wy)] : List (Str × V)) := (put_past (by decide +kernel)).trans (congrArg _ ((put_past (by decide +kernel)).trans (congrArg _ ((put_past (by decide +kernel)).trans (congrArg _ ((put_past (by decide +kernel)).trans (rfl)))))))
  have e5 : putF "by" (.int bb) ([("person", pe), ("purposes", .int m), ("until", til), ("inside", .ref li), ("why", .int wy)] : List (Str × V)) = ([("person", pe), ("purposes", .int m), ("until", til), ("inside", .ref li), ("why", .int wy), ("by", .int bb)] : List (Str × V)) := (put_past (by decide +kernel)).trans (congrArg _ ((put_past (by decide +kernel)).trans (congrArg _ ((put_past (by decide +kernel)).trans (congrArg _ ((put_past (by decide +kernel)).trans (congrArg _ ((put_past (by decide +kernel)).trans (rfl)))))))))
  have e6 : putF "day" (.int dy) ([("person", pe), ("purposes", .int m), ("until", til), ("inside", .ref li), ("why", .int wy), ("by", .int bb)] : List (Str × V)) = ([("person", pe), ("purposes", .int m), ("until", til), ("inside", .ref li), ("why", .int wy), ("by", .int bb), ("day", .int dy)] : List (Str × V)) := (put_past (by decide +kernel)).trans (congrArg _ ((put_past (by decide +kernel)).trans (congrArg _ ((put_past (by decide +kernel)).trans (congrArg _ ((put_past (by decide +kernel)).trans (congrArg _ ((put_past (by decide +kernel)).trans (congrArg _ ((put_past (by decide +kernel)).trans (rfl)))))))))))
  show putF "day" (.int dy) (putF "by" (.int bb) (putF "why" (.int wy) (putF "inside" (.ref li) (putF "until" (til) (putF "purposes" (.int m) ([("person", pe)] : List (Str × V))))))) = _
  rw [e1, e2, e3, e4, e5, e6]
  rfl
end
section
variable {P : Program} {w : World} {K : PySem.W.Frag} {mg : Str → Option Value} {base : Heap} {CI CD : Addr}
/-- Item(person, purposes, until, inside) -/
def spItemInit (CI : Addr) : Sp := fun vs H Q _ => ∃ (p dx : Addr) (pe : V) (m : Int) (til : V) (li : Addr), vs = [.ref p, pe, .int m, til, .ref li] ∧ H p = some (.ins CI dx []) ∧
  ∀ H' : Hp, H' p = some (.ins CI dx (iF pe m til li 0 0 0)) → (∀ b o, H b = some o → b ≠ p → H' b = some o) → Q .non H'
theorem scII : FnScope ["self", "person", "purposes", "until", "inside"] ["self", "person", "purposes", "until", "inside"] (defScope sItemInit) := ⟨rfl, rfl, rfl, by decide +kernel, rfl, by decide +kernel, by decide +kernel⟩
theorem ok_itemInit {f : Addr} {fd : FuncData} (F : Fun K "__init__" "Item.__init__" sItemInit f fd) (T : Txt K mg CI CD) : FnOk P w K mg base CX0 1 f fd ["self", "person", "purposes", "until", "inside"] (spItemInit CI) := by
  refine F.ok scII (fun vs H Q E h => ?_) (fun cdv A outer s H vs Q E hr h => ?_)
  · obtain ⟨p, dx, pe, m, til, li, rfl, _⟩ := h
    rfl
  · obtain ⟨p, dx, pe, m, til, li, rfl, hp, k⟩ := h
    refine ⟨_, pss_cons (ps_fld (pv 0) (pv 1) rfl) (pss_cons (ps_fld (pv 0) (pv 2) rfl) (pss_cons (ps_fld (pv 0) (pv 3) rfl) (pss_cons (ps_fld (pv 0) (pv 4) rfl) (pss_cons (ps_fld (pv 0) (pe_gi T.kNOTE) rfl) (pss_cons (ps_fld (pv 0) pe_int rfl) (pss_one (ps_fld (pv 0) pe_int rfl))))))), ?_⟩
    refine ⟨_, rfl, _, rfl, p, CI, dx, [], rfl, hp, T.clI, T.nPerson, (by show 0 < 1000; decide), ?_⟩
    refine ⟨_, rfl, _, rfl, p, CI, dx, _, rfl, upd_same, T.clI, T.nPurposes, (by show 1 < 1000; decide), ?_⟩
    refine ⟨_, rfl, _, rfl, p, CI, dx, _, rfl, upd_same, T.clI, T.nUntil, (by show 2 < 1000; decide), ?_⟩
    refine ⟨_, rfl, _, rfl, p, CI, dx, _, rfl, upd_same, T.clI, T.nInside, (by show 3 < 1000; decide), ?_⟩
    refine ⟨_, rfl, p, CI, dx, _, rfl, upd_same, T.clI, T.nWhy, (by show 4 < 1000; decide), ?_⟩
    refine ⟨_, rfl, p, CI, dx, _, rfl, upd_same, T.clI, T.nBy, (by show 5 < 1000; decide), ?_⟩
    refine ⟨_, rfl, p, CI, dx, _, rfl, upd_same, T.clI, T.nDay, (by show 6 < 1000; decide), ?_⟩
    refine k _ (Eq.trans upd_same (congrArg (fun q => some (HO.ins CI dx q)) iF_new)) fun b o e hb => ?_
    rw [upd_ne hb, upd_ne hb, upd_ne hb, upd_ne hb, upd_ne hb, upd_ne hb, upd_ne hb]
    exact e
/-- is_given -/
def spIsGiven (CI : Addr) : Sp := fun vs H Q _ => ∃ (p dx : Addr) (pe : V) (m : Int) (til : V) (li : Addr) (wy bb dy : Int), vs = [.ref p] ∧ H p = some (.ins CI dx (iF pe m til li wy bb dy)) ∧ Q (.bl (!decide (pe = .non))) H
theorem scIG : FnScope ["self"] ["self"] (defScope sIsGiven) := ⟨rfl, rfl, rfl, by decide +kernel, rfl, by decide +kernel, by decide +kernel⟩
theorem ok_isGiven {f : Addr} {fd : FuncData} (F : Fun K "is_given" "Item.is_given" sIsGiven f fd) (T : Txt K mg CI CD) : FnOk P w K mg base CX0 1 f fd ["self"] (spIsGiven CI) := by
  refine F.ok scIG (fun vs H Q E h => ?_) (fun cdv A outer s H vs Q E hr h => ?_)
  · obtain ⟨p, dx, pe, m, til, li, wy, bb, dy, rfl, _⟩ := h
    rfl
  · obtain ⟨p, dx, pe, m, til, li, wy, bb, dy, rfl, hp, k⟩ := h
    refine ⟨_, pss_one (ps_ret (pe_cmpR op_notN (pe_fld (pv 0) rfl) pe_non (nomark _))), ?_⟩
    exact ⟨_, rfl, p, CI, dx, _, _, rfl, hp, T.clI, T.nPerson, iF_person, rfl, k⟩
/-- is_erased -/
def spIsErased (CI : Addr) : Sp := fun vs H Q _ => ∃ (p dx : Addr) (pe : V) (m : Int) (til : V) (li : Addr) (wy : Nat) (bb dy : Int), vs = [.ref p] ∧ H p = some (.ins CI dx (iF pe m til li (wy : Int) bb dy)) ∧ Q (.bl (!decide (wy = 0))) H
theorem scIE : FnScope ["self"] ["self"] (defScope sIsErased) := ⟨rfl, rfl, rfl, by decide +kernel, rfl, by decide +kernel, by decide +kernel⟩
theorem int_eq0 (m : Nat) : decide (V.int (m : Int) = V.int 0) = decide (m = 0) := by
  rw [decide_eq_decide]
  exact ⟨fun h => by have := V.int.inj h; omega, fun h => by rw [h]; rfl⟩
theorem ok_isErased {f : Addr} {fd : FuncData} (F : Fun K "is_erased" "Item.is_erased" sIsErased f fd) (T : Txt K mg CI CD) : FnOk P w K mg base CX0 1 f fd ["self"] (spIsErased CI) := by
  refine F.ok scIE (fun vs H Q E h => ?_) (fun cdv A outer s H vs Q E hr h => ?_)
  · obtain ⟨p, dx, pe, m, til, li, wy, bb, dy, rfl, _⟩ := h
    rfl
  · obtain ⟨p, dx, pe, m, til, li, wy, bb, dy, rfl, hp, k⟩ := h
    refine ⟨_, pss_one (ps_ret (pe_cmpR op_ne (pe_fld (pv 0) rfl) (pe_gi T.kNOTE) (nomark _))), ?_⟩
    refine ⟨_, rfl, p, CI, dx, _, _, rfl, hp, T.clI, T.nWhy, iF_why, rfl, ?_⟩
    rw [int_eq0]
    exact k
/-- has_all -/
def spHasAll (CI : Addr) : Sp := fun vs H Q _ => ∃ (p dx : Addr) (pe : V) (m : Nat) (til : V) (li : Addr) (wy bb dy : Int) (n : Nat), vs = [.ref p, .int (n : Int)] ∧ H p = some (.ins CI dx (iF pe (m : Int) til li wy bb dy)) ∧ Q (.bl (decide (m &&& n = n))) H
theorem scHA : FnScope ["self", "purposes"] ["self", "purposes"] (defScope sHasAll) := ⟨rfl, rfl, rfl, by decide +kernel, rfl, by decide +kernel, by decide +kernel⟩
theorem ok_hasAll {f : Addr} {fd : FuncData} (F : Fun K "has_all" "Item.has_all" sHasAll f fd) (T : Txt K mg CI CD) : FnOk P w K mg base CX0 1 f fd ["self", "purposes"] (spHasAll CI) := by
  refine F.ok scHA (fun vs H Q E h => ?_) (fun cdv A outer s H vs Q E hr h => ?_)
  · obtain ⟨p, dx, pe, m, til, li, wy, bb, dy, n, rfl, _⟩ := h
    rfl
  · obtain ⟨p, dx, pe, m, til, li, wy, bb, dy, n, rfl, hp, k⟩ := h
    refine ⟨_, pss_one (ps_ret (pe_cmpR op_eq (pe_op op_and (pe_fld (pv 0) rfl) (pv 1)) (pv 1) (nomark _))), ?_⟩
    refine ⟨_, rfl, p, CI, dx, _, _, rfl, hp, T.clI, T.nPurposes, iF_purposes, _, rfl, _, _, rfl, rfl, _, rfl, rfl, ?_⟩
    have e : decide (V.int (Builtin.bitAnd (m : Int) (n : Int)) = V.int (n : Int)) = decide (m &&& n = n) := by
      rw [PySem.W.os_band, decide_eq_decide]
      exact ⟨fun h => Int.ofNat.inj (V.int.inj h), fun h => by rw [h]⟩
    rw [e]
    exact k
/-- m & ~n -/
theorem and_not {m n : Nat} (hm : m ≤ 65535) : Builtin.bitAnd (m : Int) (Builtin.bitNot (n : Int)) = ((Kp187.without m n : Nat) : Int) := by
  have e1 : Builtin.bitAnd (m : Int) (Builtin.bitNot (n : Int)) = (m : Int) - ((m &&& n : Nat) : Int) := by
    have h1 : (0 : Int) ≤ (m : Int) := Int.natCast_nonneg m
    have h2 : ¬ (0 : Int) ≤ Builtin.bitNot (n : Int) := by
      unfold Builtin.bitNot
      omega
    have h3 : Builtin.bitNot (Builtin.bitNot (n : Int)) = (n : Int) := by
      unfold Builtin.bitNot
      omega
    unfold Builtin.bitAnd
    rw [decide_eq_true h1, decide_eq_false h2]
    show (m : Int) - (((m : Int).toNat &&& (Builtin.bitNot (Builtin.bitNot (n : Int))).toNat : Nat) : Int) = _
    rw [h3, Int.toNat_natCast, Int.toNat_natCast]
  rw [e1]
  have := without_eq (n := n) hm
  omega
/-- lose -/
def spLose (CI : Addr) : Sp := fun vs H Q _ => ∃ (p dx : Addr) (pe : V) (m : Nat) (til : V) (li : Addr) (wy bb dy : Int) (n : Nat), vs = [.ref p, .int (n : Int)] ∧ H p = some (.ins CI dx (iF pe (m : Int) til li wy bb dy)) ∧ m ≤ 65535 ∧
  ∀ H' : Hp, H' p = some (.ins CI dx (iF pe ((Kp187.without m n : Nat) : Int) til li wy bb dy)) → (∀ b o, H b = some o → b ≠ p → H' b = some o) → Q .non H'
theorem scLo : FnScope ["self", "purposes"] ["self", "purposes"] (defScope sLose) := ⟨rfl, rfl, rfl, by decide +kernel, rfl, by decide +kernel, by decide +kernel⟩
theorem ok_lose {f : Addr} {fd : FuncData} (F : Fun K "lose" "Item.lose" sLose f fd) (T : Txt K mg CI CD) : FnOk P w K mg base CX0 1 f fd ["self", "purposes"] (spLose CI) := by
  refine F.ok scLo (fun vs H Q E h => ?_) (fun cdv A outer s H vs Q E hr h => ?_)
  · obtain ⟨p, dx, pe, m, til, li, wy, bb, dy, n, rfl, _⟩ := h
    rfl
  · obtain ⟨p, dx, pe, m, til, li, wy, bb, dy, n, rfl, hp, hm, k⟩ := h
    refine ⟨_, pss_one (ps_fld (pv 0) (pe_op op_and (pe_fld (pv 0) rfl) (pe_un un_inv (pv 1))) rfl), ?_⟩
    refine ⟨_, rfl, p, CI, dx, _, _, rfl, hp, T.clI, T.nPurposes, iF_purposes, _, rfl, _, rfl, _, _, rfl, rfl, _, rfl, p, CI, dx, _, rfl, hp, T.clI, T.nPurposes, (by show 7 < 1000; decide), ?_⟩
    dsimp only
    rw [and_not hm, iF_putP]
    exact k _ upd_same fun b o e hb => by
      rw [upd_ne hb]
      exact e
/-- erase -/
def spErase (CI : Addr) : Sp := fun vs H Q _ => ∃ (p dx : Addr) (pe : V) (m : Int) (til : V) (li : Addr) (wy bb dy wy' bb' dy' : Int), vs = [.ref p, .int wy', .int bb', .int dy'] ∧ H p = some (.ins CI dx (iF pe m til li wy bb dy)) ∧
  ∀ H' : Hp, H' p = some (.ins CI dx (iF pe m til li wy' bb' dy')) → (∀ b o, H b = some o → b ≠ p → H' b = some o) → Q .non H'
theorem scEr : FnScope ["self", "why", "by", "day"] ["self", "why", "by", "day"] (defScope sErase) := ⟨rfl, rfl, rfl, by decide +kernel, rfl, by decide +kernel, by decide +kernel⟩
theorem ok_erase {f : Addr} {fd : FuncData} (F : Fun K "erase" "Item.erase" sErase f fd) (T : Txt K mg CI CD) : FnOk P w K mg base CX0 1 f fd ["self", "why", "by", "day"] (spErase CI) := by
  refine F.ok scEr (fun vs H Q E h => ?_) (fun cdv A outer s H vs Q E hr h => ?_)
  · obtain ⟨p, dx, pe, m, til, li, wy, bb, dy, wy', bb', dy', rfl, _⟩ := h
    rfl
  · obtain ⟨p, dx, pe, m, til, li, wy, bb, dy, wy', bb', dy', rfl, hp, k⟩ := h
    refine ⟨_, pss_cons (ps_fld (pv 0) (pv 1) rfl) (pss_cons (ps_fld (pv 0) (pv 2) rfl) (pss_one (ps_fld (pv 0) (pv 3) rfl))), ?_⟩
    refine ⟨_, rfl, _, rfl, p, CI, dx, _, rfl, hp, T.clI, T.nWhy, (by show 7 < 1000; decide), ?_⟩
    rw [iF_putW]
    refine ⟨_, rfl, _, rfl, p, CI, dx, _, rfl, upd_same, T.clI, T.nBy, (by show 7 < 1000; decide), ?_⟩
    rw [iF_putB]
    refine ⟨_, rfl, _, rfl, p, CI, dx, _, rfl, upd_same, T.clI, T.nDay, (by show 7 < 1000; decide), ?_⟩
    rw [iF_putD]
    exact k _ upd_same fun b o e hb => by
      rw [upd_ne hb, upd_ne hb, upd_ne hb]
      exact e
end
end Er
set_option Elab.async false
set_option maxRecDepth 100000
set_option maxHeartbeats 4000000
set_option linter.unusedVariables false
set_option autoImplicit false
namespace Er
open PySem PySem.Spec PyProof.Rows L2
/-- the desk's attributes -/
def dF (many today : Int) (l : Addr) : List (Str × V) := [("many", .int many), ("today", .int today), ("kept", .ref l)]
section
variable {m t : Int} {l : Addr}
theorem dF_many : (dF m t l).lookup ("many" : Str) = some (.int m) := lk_here
theorem dF_today : (dF m t l).lookup ("today" : Str) = some (.int t) := (lk_past (by decide +kernel)).trans lk_here
theorem dF_kept : (dF m t l).lookup ("kept" : Str) = some (.ref l) := (lk_past (by decide +kernel)).trans ((lk_past (by decide +kernel)).trans lk_here)
theorem dF_no {k : Str} (h1 : (k == "many") = false) (h2 : (k == "today") = false) (h3 : (k == "kept") = false) : (dF m t l).lookup k = none := (lk_past h1).trans ((lk_past h2).trans ((lk_past h3).trans rfl))
theorem dF_putM {y : Int} : putF "many" (.int y) (dF m t l) = dF y t l := put_here
theorem dF_putT {y : Int} : putF "today" (.int y) (dF m t l) = dF m y l := (put_past (by decide +kernel)).trans (congrArg _ put_here)
theorem dF_putK {y : Addr} : putF "kept" (.ref y) (dF m t l) = dF m t y := (put_past (by decide +kernel)).trans (congrArg _ ((put_past (by decide +kernel)).trans (congrArg _ put_here)))
theorem dF_new : putF "kept" (.ref l) (putF "today" (.int t) (putF "many" (.int m) [])) = dF m t l := by
  have e2 : putF "today" (.int t) ([("many", .int m)] : List (Str × V)) = ([("many", .int m), ("today", .int t)] : List (Str × V)) := (put_past (by decide +kernel)).trans rfl
  show putF "kept" (.ref l) (putF "today" (.int t) ([("many", .int m)] : List (Str × V))) = _
  rw [e2]
  exact (put_past (by decide +kernel)).trans (congrArg _ ((put_past (by decide +kernel)).trans rfl))
end
/-! ### The desk in the heap -/
def perV : Kp187.Kind → V
  | .given p _ => .int (p : Int)
  | .made _ _ => .non
def tilV : Kp187.Kind → V
  | .given _ u => .int (u : Int)
  | .made _ _ => .non
def whyN : Option Kp187.Gone → Nat
  | some g => g.why
  | none => 0
def byN : Option Kp187.Gone → Nat
  | some g => g.by_
  | none => 0
def dayN : Option Kp187.Gone → Nat
  | some g => g.day
  | none => 0
def itV (x : Kp187.Item) (li : Addr) : List (Str × V) := iF (perV x.kind) (x.purposes : Int) (tilV x.kind) li ((whyN x.gone : Nat) : Int) ((byN x.gone : Nat) : Int) ((dayN x.gone : Nat) : Int)
def natsV (l : List Nat) : List V := l.map fun g : Nat => V.int (g : Int)
structure ItemAt (CI : Addr) (H : Hp) (p li : Addr) (x : Kp187.Item) : Prop where
  ins : ∃ dx, H p = some (.ins CI dx (itV x li))
  lst : ∃ gs, H li = some (.lst (natsV gs)) ∧ gs.Perm x.inside
  nz : ∀ g, x.gone = some g → g.why ≠ 0
theorem ItemAt.er {CI : Addr} {H : Hp} {p li : Addr} {x : Kp187.Item} (I : ItemAt CI H p li x) : (!decide (whyN x.gone = 0)) = x.gone.isSome := by
  cases e : x.gone with
  | none => rfl
  | some g =>
    have := I.nz g e
    show (!decide (g.why = 0)) = true
    rw [decide_eq_false this]
    rfl
structure DeskAt (CD CI : Addr) (H : Hp) (d : Addr) (a : Kp187.Abs) (l : Addr) (as ls : List Addr) : Prop where
  obj : ∃ dx, H d = some (.ins CD dx (dF (a.many : Int) (a.today : Int) l))
  kept : H l = some (.lst (as.map V.ref))
  nd : as.Nodup
  len : as.length = a.items.length
  sz : a.items.length ≤ 128
  nl : l ∉ ls
  nd2 : d ∉ as
  it : ∀ (j : Nat) (x : Kp187.Item), a.items[j]? = some x → ∃ (p li : Addr), as[j]? = some p ∧ li ∈ ls ∧ ItemAt CI H p li x
def Desk (CD CI : Addr) (H : Hp) (d : Addr) (a : Kp187.Abs) (F : Addr → Prop) : Prop :=
  ∃ l as ls, DeskAt CD CI H d a l as ls ∧ F d ∧ F l ∧ (∀ b ∈ as, F b) ∧ (∀ b ∈ ls, F b)
/-- what is not F's stands -/
def Keeps (F : Addr → Prop) (H H' : Hp) : Prop := ∀ b o, H b = some o → ¬ F b → H' b = some o
section
variable {CD CI d : Addr} {H H' : Hp} {a : Kp187.Abs} {F G : Addr → Prop}
theorem ItemAt.same {p li : Addr} {x : Kp187.Item} (I : ItemAt CI H p li x) (s : Same H H') : ItemAt CI H' p li x := by
  obtain ⟨⟨dx, h1⟩, ⟨gs, h2, h3⟩, h4⟩ := I
  exact ⟨⟨dx, s _ _ h1⟩, ⟨gs, s _ _ h2, h3⟩, h4⟩
theorem DeskAt.same {l : Addr} {as ls : List Addr} (D : DeskAt CD CI H d a l as ls) (s : Same H H') : DeskAt CD CI H' d a l as ls := by
  obtain ⟨⟨dx, h1⟩, h2, h3, h4, hz, h5, h6, h7⟩ := D
  refine ⟨⟨dx, s _ _ h1⟩, s _ _ h2, h3, h4, hz, h5, h6, fun j x hx => ?_⟩
  obtain ⟨p, li, e1, e2, I⟩ := h7 j x hx
  exact ⟨p, li, e1, e2, I.same s⟩
theorem Desk.same (D : Desk CD CI H d a F) (s : Same H H') : Desk CD CI H' d a F := by
  obtain ⟨l, as, ls, D, h⟩ := D
  exact ⟨l, as, ls, D.same s, h⟩
theorem Desk.mono (D : Desk CD CI H d a F) (h : ∀ b, F b → G b) : Desk CD CI H d a G := by
  obtain ⟨l, as, ls, D, h1, h2, h3, h4⟩ := D
  exact ⟨l, as, ls, D, h _ h1, h _ h2, fun b hb => h b (h3 b hb), fun b hb => h b (h4 b hb)⟩
theorem Same.new {p : Addr} {o : HO} (hp : H p = none) : Same H (upd H p o) := fun b o' e => by
  rw [upd_ne (ne_of_none e hp)]
  exact e
theorem Keeps.of_same (s : Same H H') : Keeps F H H' := fun b o e _ => s b o e
theorem Keeps.trans {H1 H2 : Hp} (k1 : Keeps F H H1) (k2 : Keeps (fun b => F b ∨ H b = none) H1 H2) : Keeps F H H2 := fun b o e hb =>
  k2 b o (k1 b o e hb) fun q => q.elim hb fun z => by rw [z] at e; cases e
theorem DeskAt.get {l : Addr} {as ls : List Addr} (D : DeskAt CD CI H d a l as ls) {j : Nat} {x : Kp187.Item} (h : a.items[j]? = some x) :
    ∃ p li dx, as[j]? = some p ∧ (as.map V.ref)[j]? = some (V.ref p) ∧ li ∈ ls ∧ H p = some (.ins CI dx (itV x li)) ∧ ItemAt CI H p li x := by
  obtain ⟨p, li, e1, e2, I⟩ := D.it j x h
  obtain ⟨dx, h1⟩ := I.ins
  exact ⟨p, li, dx, e1, by rw [List.getElem?_map, e1]; rfl, e2, h1, I⟩
theorem DeskAt.as_some {l : Addr} {as ls : List Addr} (D : DeskAt CD CI H d a l as ls) {b : Addr} (hb : b ∈ as) : ∃ o, H b = some o := by
  obtain ⟨j, hj⟩ := List.mem_iff_getElem?.mp hb
  have hj2 : j < a.items.length := by
    rw [← D.len]
    exact (List.getElem?_eq_some_iff.mp hj).1
  obtain ⟨q, lq, dq, e1, _, _, hq, _⟩ := D.get (List.getElem?_eq_getElem hj2)
  have : b = q := Option.some.inj (hj.symm.trans e1)
  rw [this]
  exact ⟨_, hq⟩
end
section
variable {P : Program} {w : World} {K : PySem.W.Frag} {mg : Str → Option Value} {base : Heap} {CI CD : Addr}
/-! ### is_full, is_there, keep -/
def spIsFull (CD CI : Addr) : Sp := fun vs H Q _ => ∃ (d : Addr) (a : Kp187.Abs) (F : Addr → Prop), vs = [.ref d] ∧ Desk CD CI H d a F ∧ Q (.bl (decide (128 ≤ a.items.length))) H
theorem scIF : FnScope ["self"] ["self"] (defScope sIsFull) := ⟨rfl, rfl, rfl, by decide +kernel, rfl, by decide +kernel, by decide +kernel⟩
theorem ok_isFull {f : Addr} {fd : FuncData} (F : Fun K "is_full" "Desk.is_full" sIsFull f fd) (T : Txt K mg CI CD) : FnOk P w K mg base CX0 1 f fd ["self"] (spIsFull CD CI) := by
  refine F.ok scIF (fun vs H Q E h => ?_) (fun cdv A outer s H vs Q E hr h => ?_)
  · obtain ⟨d, a, F, rfl, _⟩ := h
    rfl
  · obtain ⟨d, a, F, rfl, ⟨l, as, ls, D, _⟩, k⟩ := h
    obtain ⟨dx, hd⟩ := D.obj
    refine ⟨_, pss_one (ps_ret (pe_cmpR op_ge (pe_callB call_len_seq (by rfl) T.bLen PySem.boot_len (pa_cons (pe_fld (pv 0) rfl) pa_nil)) (pe_gi T.kITEMS) (nomark _))), ?_⟩
    refine ⟨_, rfl, d, CD, dx, _, _, rfl, hd, T.clD, T.nKept, dF_kept, l, _, rfl, .inl (SqL.of D.kept), _, _, rfl, rfl, ?_⟩
    have e : decide ((128 : Int) ≤ (((as.map V.ref).length : Nat) : Int)) = decide (128 ≤ a.items.length) := by
      rw [List.length_map, D.len, decide_eq_decide]
      omega
    dsimp only
    rw [e]
    exact k
def spIsThere (CD CI : Addr) : Sp := fun vs H Q _ => ∃ (d : Addr) (a : Kp187.Abs) (F : Addr → Prop) (n : Nat), vs = [.ref d, .int (n : Int)] ∧ Desk CD CI H d a F ∧ Q (.bl (Kp187.there a n)) H
theorem scIT : FnScope ["self", "number"] ["self", "number"] (defScope sIsThere) := ⟨rfl, rfl, rfl, by decide +kernel, rfl, by decide +kernel, by decide +kernel⟩
theorem there_eq (a : Kp187.Abs) (n : Nat) : Kp187.there a n = match a.items[n]? with | some x => x.gone.isNone | none => false := rfl
theorem iF_not {pe til : V} {m wy bb dy : Int} {li : Addr} {k : Str} (h : (k == "person" || (k == "purposes" || (k == "until" || (k == "inside" || (k == "why" || (k == "by" || k == "day")))))) = false) : (iF pe m til li wy bb dy).lookup k = none := by
  simp only [Bool.or_eq_false_iff] at h
  exact iF_no h.1 h.2.1 h.2.2.1 h.2.2.2.1 h.2.2.2.2.1 h.2.2.2.2.2.1 h.2.2.2.2.2.2
theorem ok_isThere {f fE : Addr} {fd fdE : FuncData} (F : Fun K "is_there" "Desk.is_there" sIsThere f fd) (T : Txt K mg CI CD) (GE : FnOk P w K mg base CX0 1 fE fdE ["self"] (spIsErased CI)) (bE : Binds K fdE ["self"] []) (mE : Meth K CI "is_erased" fE) :
    FnOk P w K mg base CX0 2 f fd ["self", "number"] (spIsThere CD CI) := by
  refine F.ok scIT (fun vs H Q E h => ?_) (fun cdv A outer s H vs Q E hr h => ?_)
  · obtain ⟨d, a, F, n, rfl, _⟩ := h
    rfl
  · obtain ⟨d, a, F, n, rfl, ⟨l, as, ls, D, _⟩, k⟩ := h
    obtain ⟨dx, hd⟩ := D.obj
    refine ⟨_, pss_one (ps_ret (pe_and (pe_cmpR op_lt (pv 1) (pe_callB call_len_seq (by rfl) T.bLen PySem.boot_len (pa_cons (pe_fld (pv 0) rfl) pa_nil)) (nomark _))
      (pe_one (pe_not (pe_meth0 (pe_ix ix_list (pe_fld (pv 0) rfl) (pv 1) (fun _ _ => rfl)) T.clI mE GE hr bE .nil pass0))))), ?_⟩
    refine ⟨_, rfl, _, rfl, d, CD, dx, _, _, rfl, hd, T.clD, T.nKept, dF_kept, l, _, rfl, .inl (SqL.of D.kept), _, _, rfl, rfl, _, rfl, ?_⟩
    rw [there_eq] at k
    refine ite2 (fun c => ?_) (fun c => ?_)
    · have hn : n < a.items.length := by
        have := of_decide_eq_true c
        rw [List.length_map, D.len] at this
        omega
      have hx : a.items[n]? = some a.items[n] := List.getElem?_eq_getElem hn
      obtain ⟨p, li, dp, e1, e2, e3, hp, I⟩ := D.get hx
      rw [hx] at k
      refine ⟨_, rfl, d, CD, dx, _, _, rfl, hd, T.clD, T.nKept, dF_kept, _, rfl, l, _, _, _, rfl, rfl, SqL.of D.kept, atI_nat e2, p, dp, _, rfl, hp, iF_not (by decide +kernel), p, dp, _, _, _, li, whyN a.items[n].gone, _, _, rfl, hp, _, rfl, ?_⟩
      rw [I.er, Option.not_isSome]
      exact k
    · have hn : ¬ n < a.items.length := fun z => c (decide_eq_true (by rw [List.length_map, D.len]; omega))
      rw [List.getElem?_eq_none (by omega)] at k
      exact k
end
end Er
set_option Elab.async false
set_option maxRecDepth 100000
set_option maxHeartbeats 4000000
set_option linter.unusedVariables false
set_option autoImplicit false
namespace Er
open PySem PySem.Spec PyProof.Rows L2
section
variable {P : Program} {w : World} {K : PySem.W.Frag} {mg : Str → Option Value} {base : Heap} {CI CD : Addr}
def addI (a : Kp187.Abs) (x : Kp187.Item) : Kp187.Abs := { a with items := a.items ++ [x] }
theorem DeskAt.add {H H' : Hp} {d l p li : Addr} {a : Kp187.Abs} {as ls : List Addr} {x : Kp187.Item} (D : DeskAt CD CI H d a l as ls) (I : ItemAt CI H p li x) (hp : p ∉ as) (hd : p ≠ d) (hl : li ≠ l) (hsz : a.items.length < 128)
    (hk : H' l = some (.lst ((as ++ [p]).map V.ref))) (kp : ∀ b o, H b = some o → b ≠ l → H' b = some o) : DeskAt CD CI H' d (addI a x) l (as ++ [p]) (li :: ls) := by
  have keepI : ∀ {q lq : Addr} {y : Kp187.Item}, ItemAt CI H q lq y → lq ≠ l → ItemAt CI H' q lq y := fun {q lq y} J hq => by
    obtain ⟨⟨dx, h1⟩, ⟨gs, h2, h3⟩, h4⟩ := J
    exact ⟨⟨dx, kp _ _ h1 (ne_of h1 D.kept (by intro z; cases z))⟩, ⟨gs, kp _ _ h2 hq, h3⟩, h4⟩
  obtain ⟨dx, ho⟩ := D.obj
  refine ⟨⟨dx, kp _ _ ho (ne_of ho D.kept (by intro z; cases z))⟩, hk, ?_, ?_, ?_, ?_, ?_, fun j y hy => ?_⟩
  · rw [List.nodup_append]
    refine ⟨D.nd, by simp, fun u hu v hv => ?_⟩
    rw [List.mem_singleton] at hv
    rw [hv]
    exact fun e => hp (e ▸ hu)
  · show (as ++ [p]).length = (a.items ++ [x]).length
    rw [List.length_append, List.length_append, D.len]
    rfl
  · show (a.items ++ [x]).length ≤ 128
    rw [List.length_append]
    show a.items.length + 1 ≤ 128
    omega
  · intro z
    rcases List.mem_cons.mp z with z | z
    · exact hl z.symm
    · exact D.nl z
  · intro z
    rcases List.mem_append.mp z with z | z
    · exact D.nd2 z
    · rw [List.mem_singleton] at z
      exact hd z.symm
  · have hy' : (a.items ++ [x])[j]? = some y := hy
    by_cases hj : j < a.items.length
    · rw [List.getElem?_append_left hj] at hy'
      obtain ⟨q, lq, e1, e2, J⟩ := D.it j y hy'
      exact ⟨q, lq, by rw [List.getElem?_append_left (by rw [D.len]; exact hj)]; exact e1, List.mem_cons_of_mem _ e2, keepI J fun e => D.nl (e ▸ e2)⟩
    · rw [List.getElem?_append_right (by omega)] at hy'
      have ej : j - a.items.length = 0 := by
        have := (List.getElem?_eq_some_iff.mp hy').1
        simp at this
        omega
      rw [ej] at hy'
      have : x = y := Option.some.inj hy'
      subst this
      refine ⟨p, li, ?_, List.mem_cons_self .., keepI I hl⟩
      rw [List.getElem?_append_right (by rw [D.len]; omega), D.len, ej]
      rfl
def spKeep (CD CI : Addr) : Sp := fun vs H Q _ => ∃ (d : Addr) (a : Kp187.Abs) (l : Addr) (as ls : List Addr) (p li : Addr) (x : Kp187.Item), vs = [.ref d, .ref p] ∧ DeskAt CD CI H d a l as ls ∧ ItemAt CI H p li x ∧ p ∉ as ∧ p ≠ d ∧ li ≠ l ∧ a.items.length < 128 ∧
  ∀ H', DeskAt CD CI H' d (addI a x) l (as ++ [p]) (li :: ls) → (∀ b o, H b = some o → b ≠ l → H' b = some o) → Q (.int (a.items.length : Int)) H'
theorem scKe : FnScope ["self", "item"] ["self", "item"] (defScope sKeep) := ⟨rfl, rfl, rfl, by decide +kernel, rfl, by decide +kernel, by decide +kernel⟩
theorem ok_keep {f : Addr} {fd : FuncData} (F : Fun K "keep" "Desk.keep" sKeep f fd) (T : Txt K mg CI CD) : FnOk P w K mg base CX0 1 f fd ["self", "item"] (spKeep CD CI) := by
  refine F.ok scKe (fun vs H Q E h => ?_) (fun cdv A outer s H vs Q E hr h => ?_)
  · obtain ⟨d, a, l, as, ls, p, li, x, rfl, _⟩ := h
    rfl
  · obtain ⟨d, a, l, as, ls, p, li, x, rfl, D, I, hp, hpd, hl, h128, k⟩ := h
    obtain ⟨dx, hd⟩ := D.obj
    refine ⟨_, pss_cons (ps_expr (pe_bm PySem.F.plainAttrs_list PySem.F.slot_list_append PySem.F.type_list_append mt_append (pe_fld (pv 0) rfl) (pa_cons (pv 1) pa_nil)))
      (pss_one (ps_ret (pe_op op_sub (pe_callB call_len_seq (by rfl) T.bLen PySem.boot_len (pa_cons (pe_fld (pv 0) rfl) pa_nil)) pe_int))), ?_⟩
    refine ⟨_, rfl, d, CD, dx, _, _, rfl, hd, T.clD, T.nKept, dF_kept, .inl ⟨rfl, _, SqL.of D.kept⟩, _, rfl, l, _, _, rfl, rfl, D.kept, ?_, ?_⟩
    · rw [List.length_map, D.len]
      exact Nat.lt_trans h128 (by decide)
    have hd' : upd H l (.lst (as.map V.ref ++ [V.ref p])) d = some (.ins CD dx (dF (a.many : Int) (a.today : Int) l)) := by
      rw [upd_ne (ne_of hd D.kept (by intro z; cases z))]
      exact hd
    refine ⟨_, rfl, d, CD, dx, _, _, rfl, hd', T.clD, T.nKept, dF_kept, l, _, rfl, .inl (SqL.of upd_same), _, _, rfl, rfl, ?_⟩
    dsimp only
    have e : (((as.map V.ref ++ [V.ref p]).length : Nat) : Int) - 1 = (a.items.length : Int) := by
      rw [List.length_append, List.length_map, D.len]
      simp
    rw [e]
    refine k _ (D.add I hp hpd hl h128 ?_ fun b o e' hb => ?_) fun b o e' hb => ?_
    · rw [upd_same, List.map_append]
      rfl
    · rw [upd_ne hb]; exact e'
    · rw [upd_ne hb]; exact e'
/-! ### Desk() and er_start -/
def spDeskInit (CD CI : Addr) : Sp := fun vs H Q _ => ∃ (p dx : Addr), vs = [.ref p] ∧ H p = some (.ins CD dx []) ∧
  ∀ H' l, H l = none → DeskAt CD CI H' p (Kp187.begun 2) l [] [] → (∀ b o, H b = some o → b ≠ p → H' b = some o) → Q .non H'
theorem scDI : FnScope ["self"] ["self"] (defScope sDeskInit) := ⟨rfl, rfl, rfl, by decide +kernel, rfl, by decide +kernel, by decide +kernel⟩
theorem ok_deskInit {f : Addr} {fd : FuncData} (F : Fun K "__init__" "Desk.__init__" sDeskInit f fd) (T : Txt K mg CI CD) : FnOk P w K mg base CX0 1 f fd ["self"] (spDeskInit CD CI) := by
  refine F.ok scDI (fun vs H Q E h => ?_) (fun cdv A outer s H vs Q E hr h => ?_)
  · obtain ⟨p, dx, rfl, _⟩ := h
    rfl
  · obtain ⟨p, dx, rfl, hp, k⟩ := h
    refine ⟨_, pss_cons (ps_fld (pv 0) (pe_gi T.kLEAST) rfl) (pss_cons (ps_fld (pv 0) pe_int rfl) (pss_one (ps_fld (pv 0) (pe_lst pa_nil) rfl))), ?_⟩
    refine ⟨_, rfl, p, CD, dx, [], rfl, hp, T.clD, T.nMany, (by show 0 < 1000; decide), ?_⟩
    refine ⟨_, rfl, p, CD, dx, _, rfl, upd_same, T.clD, T.nToday, (by show 1 < 1000; decide), ?_⟩
    refine ⟨Nat.zero_le _, fun l hl => ?_⟩
    have npl : p ≠ l := fun e => by
      rw [e, upd_same] at hl
      cases hl
    have hl0 : H l = none := by
      rw [upd_ne (fun e => npl e.symm), upd_ne (fun e => npl e.symm)] at hl
      exact hl
    refine ⟨_, rfl, p, CD, dx, _, rfl, (by rw [upd_ne npl]; exact upd_same), T.clD, T.nKept, (by show 2 < 1000; decide), ?_⟩
    refine k _ l hl0 ⟨⟨dx, ?_⟩, ?_, by simp, rfl, Nat.zero_le _, by simp, by simp, fun j x hx => ?_⟩ fun b o e hb => ?_
    · rw [upd_same, dF_new]
      rfl
    · rw [upd_ne (fun e => npl e.symm), upd_same]
      rfl
    · cases j <;> cases hx
    · rw [upd_ne hb, upd_ne (ne_of_none e hl0), upd_ne hb, upd_ne hb]
      exact e
end
end Er
set_option Elab.async false
set_option maxRecDepth 100000
set_option maxHeartbeats 4000000
set_option linter.unusedVariables false
set_option autoImplicit false
namespace Er
open PySem PySem.Spec PyProof.Rows L2
section
variable {P : Program} {w : World} {K : PySem.W.Frag} {mg : Str → Option Value} {base : Heap} {CI CD : Addr}
/-- what a call of the desk leaves -/
def After (CD CI : Addr) (H : Hp) (d : Addr) (a : Kp187.Abs) (F : Addr → Prop) (c : Kp187.Call) (Q : VK) : Prop :=
  ∀ v H', (Kp187.act a c).2 = .num v → Desk CD CI H' d (Kp187.act a c).1 (fun b => F b ∨ H b = none) → Keeps F H H' → Q (.int v) H'
theorem After.still {H : Hp} {d : Addr} {a : Kp187.Abs} {F : Addr → Prop} {c : Kp187.Call} {Q : VK} {v : Int} (k : After CD CI H d a F c Q) (D : Desk CD CI H d a F) (e : Kp187.act a c = (a, .num v)) : Q (.int v) H := by
  refine k v H (by rw [e]) ?_ (Keeps.of_same (Same.refl H))
  rw [e]
  exact D.mono fun b hb => .inl hb
def spErStart (CD CI : Addr) : Sp := fun vs H Q _ => ∃ (d : Addr) (a : Kp187.Abs) (F : Addr → Prop) (m : Nat), vs = [.ref d, .int (m : Int)] ∧ Desk CD CI H d a F ∧ After CD CI H d a F (.start m) Q
theorem scSt : FnScope ["self", "many"] ["self", "many"] (defScope sErStart) := ⟨rfl, rfl, rfl, by decide +kernel, rfl, by decide +kernel, by decide +kernel⟩
theorem ok_erStart {f : Addr} {fd : FuncData} (F : Fun K "er_start" "Desk.er_start" sErStart f fd) (T : Txt K mg CI CD) : FnOk P w K mg base CX0 1 f fd ["self", "many"] (spErStart CD CI) := by
  refine F.ok scSt (fun vs H Q E h => ?_) (fun cdv A outer s H vs Q E hr h => ?_)
  · obtain ⟨d, a, F, m, rfl, _⟩ := h
    rfl
  · obtain ⟨d, a, F, m, rfl, DD, k⟩ := h
    refine ⟨_, pss_cons (ps_if (PW.pt (pw_or (pt_cmpR op_lt (pv 1) (pe_gi T.kLEAST) (nomark _)) (pw_or1 (pt_cmpR op_gt (pv 1) (pe_gi T.kMOST) (nomark _))))) (pss_one (ps_ret (pe_un un_neg (pe_gi T.kWRONG)))) pss_nil)
      (pss_cons (ps_fld (pv 0) (pv 1) rfl) (pss_cons (ps_fld (pv 0) pe_int rfl) (pss_cons (ps_fld (pv 0) (pe_lst pa_nil) rfl) (pss_one (ps_ret pe_int))))), ?_⟩
    have no : ¬ (2 ≤ m ∧ m ≤ 64) → Q (.int (-22)) H := fun c => k.still DD (if_neg c)
    refine ⟨_, rfl, _, _, rfl, rfl, _, rfl, ?_⟩
    refine ite2 (fun c => ?_) (fun c => ?_)
    · have := of_decide_eq_true c
      exact ⟨_, rfl, no (by omega)⟩
    · refine ⟨_, rfl, _, _, rfl, rfl, _, rfl, ?_⟩
      refine ite2 (fun c2 => ?_) (fun c2 => ?_)
      · have := of_decide_eq_true c2
        exact ⟨_, rfl, no (by omega)⟩
      · have hm : 2 ≤ m ∧ m ≤ 64 := by
          rw [decide_eq_true_eq] at c c2
          omega
        have e : Kp187.act a (.start m) = (Kp187.begun m, .num 0) := if_pos hm
        obtain ⟨l0, as0, ls0, D0, fd, fl, fas, fls⟩ := DD
        obtain ⟨dx, hd⟩ := D0.obj
        refine ⟨_, rfl, _, rfl, d, CD, dx, _, rfl, hd, T.clD, T.nMany, (by show 3 < 1000; decide), ?_⟩
        rw [dF_putM]
        refine ⟨_, rfl, d, CD, dx, _, rfl, upd_same, T.clD, T.nToday, (by show 3 < 1000; decide), ?_⟩
        rw [dF_putT]
        refine ⟨Nat.zero_le _, fun l hl => ?_⟩
        have ndl : d ≠ l := fun e => by
          rw [e, upd_same] at hl
          cases hl
        have hl0 : H l = none := by
          rw [upd_ne (fun e => ndl e.symm), upd_ne (fun e => ndl e.symm)] at hl
          exact hl
        refine ⟨_, rfl, d, CD, dx, _, rfl, (by rw [upd_ne ndl]; exact upd_same), T.clD, T.nKept, (by show 3 < 1000; decide), ?_⟩
        rw [dF_putK]
        refine k 0 _ (by rw [e]) ?_ fun b o e' hb => ?_
        · rw [e]
          refine ⟨l, [], [], ⟨⟨dx, ?_⟩, ?_, by simp, rfl, Nat.zero_le _, by simp, by simp, fun j x hx => ?_⟩, .inl fd, .inr hl0, by simp, by simp⟩
          · rw [upd_same]
            rfl
          · rw [upd_ne (fun e => ndl e.symm), upd_same]
            rfl
          · cases j <;> cases hx
        · have hbd : b ≠ d := fun e => hb (e ▸ fd)
          rw [upd_ne hbd, upd_ne (ne_of_none e' hl0), upd_ne hbd, upd_ne hbd]
          exact e'
/-! ### er_use -/
def spErUse (CD CI : Addr) : Sp := fun vs H Q _ => ∃ (d : Addr) (a : Kp187.Abs) (F : Addr → Prop) (i p : Nat), vs = [.ref d, .int (i : Int), .int (p : Int)] ∧ Desk CD CI H d a F ∧ After CD CI H d a F (.use i p) Q
theorem scUs : FnScope ["self", "number", "purpose"] ["self", "number", "purpose"] (defScope sErUse) := ⟨rfl, rfl, rfl, by decide +kernel, rfl, by decide +kernel, by decide +kernel⟩
theorem bit_has (m p : Nat) : decide (m &&& (1 * 2 ^ p) = 1 * 2 ^ p) = m.testBit p := by
  rw [Nat.one_mul, Bool.eq_iff_iff, decide_eq_true_eq]
  constructor
  · intro h
    have e := congrArg (fun z => z.testBit p) h
    simp only [Nat.testBit_and, Nat.testBit_two_pow_self, Bool.and_true] at e
    exact e
  · intro h
    apply Nat.eq_of_testBit_eq
    intro i
    rw [Nat.testBit_and, Nat.testBit_two_pow]
    by_cases c : p = i
    · subst c
      rw [h]
      simp
    · simp [c]
theorem ok_erUse {f fT fH : Addr} {fd fdT fdH : FuncData} (F : Fun K "er_use" "Desk.er_use" sErUse f fd) (T : Txt K mg CI CD) (GT : FnOk P w K mg base CX0 2 fT fdT ["self", "number"] (spIsThere CD CI)) (bT : Binds K fdT ["self", "number"] []) (mT : Meth K CD "is_there" fT)
    (GH : FnOk P w K mg base CX0 1 fH fdH ["self", "purposes"] (spHasAll CI)) (bH : Binds K fdH ["self", "purposes"] []) (mH : Meth K CI "has_all" fH) : FnOk P w K mg base CX0 3 f fd ["self", "number", "purpose"] (spErUse CD CI) := by
  refine F.ok scUs (fun vs H Q E h => ?_) (fun cdv A outer s H vs Q E hr h => ?_)
  · obtain ⟨d, a, F, i, p, rfl, _⟩ := h
    rfl
  · obtain ⟨d, a, F, i, p, rfl, DD, k⟩ := h
    have hr1 : Room 1 _ := hr.mono (by decide)
    refine ⟨_, pss_cons (ps_if (pt_not (pt_val (pe_meth (pv 0) T.clD mT GT hr bT .nil pass0 (pa_cons (pv 1) pa_nil)))) (pss_one (ps_ret (pe_un un_neg (pe_gi T.kABSENT)))) pss_nil)
      (pss_cons (ps_if (pt_cmpR op_gt (pv 2) (pe_gi T.kPURPOSE) (nomark _)) (pss_one (ps_ret (pe_un un_neg (pe_gi T.kWRONG)))) pss_nil)
      (pss_cons (ps_if (pt_not (pt_val (pe_meth (pe_ix ix_list (pe_fld (pv 0) rfl) (pv 1) (fun _ _ => rfl)) T.clI mH GH hr1 bH .nil pass0 (pa_cons (pe_op op_shl pe_int (pv 2)) pa_nil)))) (pss_one (ps_ret (pe_un un_neg (pe_gi T.kDENIED)))) pss_nil)
      (pss_one (ps_ret pe_int)))), ?_⟩
    obtain ⟨l, as, ls, D, hF⟩ := DD
    have DD : Desk CD CI H d a F := ⟨l, as, ls, D, hF⟩
    obtain ⟨dx, hd⟩ := D.obj
    have en : (Kp187.act a (.use i p)).1 = a := rfl
    refine ⟨_, rfl, d, dx, _, rfl, hd, dF_no (by decide +kernel) (by decide +kernel) (by decide +kernel), _, rfl, d, a, F, i, rfl, DD, _, rfl, ?_⟩
    cases ht : Kp187.there a i with
    | false =>
      refine iteT ⟨_, rfl, k.still DD ?_⟩
      show (a, if Kp187.there a i = false then _ else _) = _
      rw [if_pos ht]
    | true =>
      refine iteF ?_
      refine ⟨_, rfl, _, _, rfl, rfl, _, rfl, ?_⟩
      refine ite2 (fun c => ?_) (fun c => ?_)
      · refine ⟨_, rfl, k.still DD ?_⟩
        show (a, if Kp187.there a i = false then _ else if 15 < p then _ else _) = _
        have := of_decide_eq_true c
        rw [if_neg (by rw [ht]; simp), if_pos (by omega)]
      · have hp : p ≤ 15 := by
          rw [decide_eq_true_eq] at c
          omega
        obtain ⟨x, hx⟩ : ∃ x, a.items[i]? = some x := by
          rw [there_eq] at ht
          cases e : a.items[i]? with
          | none => rw [e] at ht; cases ht
          | some x => exact ⟨x, rfl⟩
        obtain ⟨q, li, dq, e1, e2, e3, hq, _⟩ := D.get hx
        refine ⟨_, rfl, d, CD, dx, _, _, rfl, hd, T.clD, T.nKept, dF_kept, _, rfl, l, _, _, _, rfl, rfl, SqL.of D.kept, atI_nat e2, q, dq, _, rfl, hq, iF_not (by decide +kernel),
          _, rfl, _, _, rfl, rfl, ⟨by omega, by omega, by decide⟩, ?_⟩
        dsimp only
        refine ⟨q, dq, _, x.purposes, _, li, _, _, _, 1 * 2 ^ p, ?_, hq, _, rfl, ?_⟩
        · simp
        rw [bit_has]
        have ea : (Kp187.act a (.use i p)) = (a, if x.purposes.testBit p then .num 1 else .num (-13)) := by
          show (a, if Kp187.there a i = false then _ else if 15 < p then _ else (match a.items[i]? with | some x => if x.purposes.testBit p then Kp187.Ans.num 1 else .num (-13) | none => .num (-2))) = _
          rw [if_neg (by rw [ht]; simp), if_neg (by omega), hx]
        cases hb : x.purposes.testBit p with
        | false =>
          refine iteT ⟨_, rfl, k.still DD ?_⟩
          rw [ea, hb]
          rfl
        | true =>
          refine iteF (k.still DD ?_)
          rw [ea, hb]
          rfl
end
end Er
set_option Elab.async false
set_option maxRecDepth 100000
set_option maxHeartbeats 4000000
set_option linter.unusedVariables false
set_option autoImplicit false
namespace Er
open PySem PySem.Spec PyProof.Rows L2
section
variable {P : Program} {w : World} {K : PySem.W.Frag} {mg : Str → Option Value} {base : Heap} {CI CD : Addr}
theorem isSet_eq (m : Nat) : (decide ((1 : Int) ≤ (m : Int)) && decide ((m : Int) ≤ 65535)) = Kp187.isSet m := by
  unfold Kp187.isSet
  congr 1
  · rw [decide_eq_decide]; omega
  · rw [decide_eq_decide]; omega
def spErGive (CD CI : Addr) : Sp := fun vs H Q _ => ∃ (d : Addr) (a : Kp187.Abs) (F : Addr → Prop) (p m u : Nat), vs = [.ref d, .int (p : Int), .int (m : Int), .int (u : Int)] ∧ Desk CD CI H d a F ∧ a.items.length ≤ 128 ∧ After CD CI H d a F (.give p m u) Q
theorem scGi : FnScope ["self", "person", "purposes", "until"] ["self", "person", "purposes", "until"] (defScope sErGive) := ⟨rfl, rfl, rfl, by decide +kernel, rfl, by decide +kernel, by decide +kernel⟩
theorem ok_erGive {f fP fF fK fI : Addr} {fd fdP fdF fdK fdI : FuncData} (F : Fun K "er_give" "Desk.er_give" sErGive f fd) (T : Txt K mg CI CD)
    (GP : FnOk P w K mg base CX0 1 fP fdP ["purposes"] spArePurposes) (bP : Binds K fdP ["purposes"] []) (gP : mg "are_purposes" = some (.ref fP)) (kP : PySem.W.keepIn K (.ref fP) = true)
    (GF : FnOk P w K mg base CX0 1 fF fdF ["self"] (spIsFull CD CI)) (bF : Binds K fdF ["self"] []) (mF : Meth K CD "is_full" fF)
    (GK : FnOk P w K mg base CX0 1 fK fdK ["self", "item"] (spKeep CD CI)) (bK : Binds K fdK ["self", "item"] []) (mK : Meth K CD "keep" fK)
    (GI : FnOk P w K mg base CX0 1 fI fdI ["self", "person", "purposes", "until", "inside"] (spItemInit CI)) (bI : Binds K fdI ["self", "person", "purposes", "until", "inside"] []) (MI : Mk K CI fI) :
    FnOk P w K mg base CX0 3 f fd ["self", "person", "purposes", "until"] (spErGive CD CI) := by
  refine F.ok scGi (fun vs H Q E h => ?_) (fun cdv A outer s H vs Q E hr h => ?_)
  · obtain ⟨d, a, F, p, m, u, rfl, _⟩ := h
    rfl
  · obtain ⟨d, a, F, p, m, u, rfl, DD, h128, k⟩ := h
    have hr1 : Room 1 _ := hr.mono (by decide)
    refine ⟨_, pss_cons (ps_if (PW.pt (pw_or (pt_cmpR op_gt (pv 1) (pe_gi T.kPERSON) (nomark _)) (pw_or1 (pt_not (pt_val (pe_call GP hr1 rfl gP kP bP .nil pass0 (pa_cons (pv 2) pa_nil))))))) (pss_one (ps_ret (pe_un un_neg (pe_gi T.kWRONG)))) pss_nil)
      (pss_cons (ps_if (PW.pt (pw_or (pt_cmpR op_gt (pv 3) (pe_gi T.kDAY) (nomark _)) (pw_or1 (pt_cmpR op_lt (pv 3) (pe_fld (pv 0) rfl) (nomark _))))) (pss_one (ps_ret (pe_un un_neg (pe_gi T.kWRONG)))) pss_nil)
      (pss_cons (ps_if (pt_val (pe_meth0 (pv 0) T.clD mF GF hr1 bF .nil pass0)) (pss_one (ps_ret (pe_un un_neg (pe_gi T.kFULL)))) pss_nil)
      (pss_one (ps_ret (pe_meth (pv 0) T.clD mK GK hr1 bK .nil pass0 (pa_cons (pe_make MI GI hr rfl T.gI bI .nil pass0 (pa_cons (pv 1) (pa_cons (pv 2) (pa_cons (pv 3) (pa_cons (pe_lst (pa_cons (pe_callB call_len_seq (by rfl) T.bLen PySem.boot_len (pa_cons (pe_fld (pv 0) rfl) pa_nil)) pa_nil)) pa_nil))))) pa_nil)))))), ?_⟩
    obtain ⟨l, as, ls, D, hF⟩ := DD
    have DD : Desk CD CI H d a F := ⟨l, as, ls, D, hF⟩
    obtain ⟨dx, hd⟩ := D.obj
    have no : (Kp187.PEOPLE ≤ p ∨ Kp187.isSet m = false ∨ Kp187.LAST < u ∨ u < a.today) → Q (.int (-22)) H := fun c => k.still DD (if_pos c)
    refine ⟨_, rfl, _, _, rfl, rfl, _, rfl, ?_⟩
    refine ite2 (fun c => ⟨_, rfl, no (.inl ?_)⟩) (fun c1 => ?_)
    · have := of_decide_eq_true c
      show 64 ≤ p
      omega
    refine ⟨_, rfl, _, rfl, _, rfl, ?_⟩
    rw [isSet_eq]
    cases hm : Kp187.isSet m with
    | false => exact iteT ⟨_, rfl, no (.inr (.inl hm))⟩
    | true =>
      refine iteF ?_
      refine ⟨_, rfl, _, _, rfl, rfl, _, rfl, ?_⟩
      refine ite2 (fun c => ⟨_, rfl, no (.inr (.inr (.inl ?_)))⟩) (fun c2 => ?_)
      · have := of_decide_eq_true c
        show 100000 < u
        omega
      refine ⟨_, rfl, _, rfl, d, CD, dx, _, _, rfl, hd, T.clD, T.nToday, dF_today, _, _, rfl, rfl, _, rfl, ?_⟩
      refine ite2 (fun c => ⟨_, rfl, no (.inr (.inr (.inr ?_)))⟩) (fun c3 => ?_)
      · have := of_decide_eq_true c
        omega
      rw [decide_eq_true_eq] at c1 c2 c3
      have ok : ¬ (Kp187.PEOPLE ≤ p ∨ Kp187.isSet m = false ∨ Kp187.LAST < u ∨ u < a.today) := by
        show ¬ (64 ≤ p ∨ _ ∨ 100000 < u ∨ u < a.today)
        rw [hm]
        simp
        omega
      have ea : Kp187.act a (.give p m u) = if Kp187.ITEMS ≤ a.items.length then (a, .num (-28)) else (addI a ⟨.given p u, m, [a.items.length], none⟩, .num (a.items.length : Nat)) := if_neg ok
      refine ⟨_, rfl, d, dx, _, rfl, hd, dF_no (by decide +kernel) (by decide +kernel) (by decide +kernel), d, a, F, rfl, DD, _, rfl, ?_⟩
      refine ite2 (fun c => ⟨_, rfl, k.still DD ?_⟩) (fun c4 => ?_)
      · rw [ea]
        exact if_pos (of_decide_eq_true c)
      rw [decide_eq_true_eq] at c4
      rw [if_neg (show ¬ Kp187.ITEMS ≤ a.items.length from c4)] at ea
      refine ⟨_, rfl, d, dx, _, rfl, hd, dF_no (by decide +kernel) (by decide +kernel) (by decide +kernel), ?_⟩
      refine ⟨_, rfl, _, rfl, _, rfl, ?_⟩
      refine ⟨_, rfl, d, CD, dx, _, _, rfl, hd, T.clD, T.nKept, dF_kept, l, _, rfl, .inl (SqL.of D.kept), (by show 1 ≤ sizeLine; decide), fun li hli => ?_⟩
      intro x dx' nx ndx nex
      have s1 : Same H (upd H li (.lst [V.int (((as.map V.ref).length : Nat) : Int)])) := Same.new hli
      refine ⟨x, dx', _, _, _, li, rfl, upd_same, fun H1 hx kp => ⟨rfl, ?_⟩⟩
      have hxli : x ≠ li := fun e => by rw [e, upd_same] at nx; cases nx
      have hdli : dx' ≠ li := fun e => by rw [e, upd_same] at ndx; cases ndx
      have nx0 : H x = none := by rw [upd_ne hxli] at nx; exact nx
      have ndx0 : H dx' = none := by rw [upd_ne hdli] at ndx; exact ndx
      have s2 : Same H H1 := s1.trans (Same.made nx ndx kp)
      have D1 := D.same s2
      have hl1 : H1 li = some (.lst [V.int (((as.map V.ref).length : Nat) : Int)]) := Same.made nx ndx kp _ _ upd_same
      have I1 : ItemAt CI H1 x li ⟨.given p u, m, [a.items.length], none⟩ := by
        refine ⟨⟨dx', hx⟩, ⟨[a.items.length], ?_, List.Perm.refl _⟩, fun g e => nomatch e⟩
        rw [hl1, List.length_map, D.len]
        rfl
      have xas : x ∉ as := fun z => by
        obtain ⟨o, ho⟩ := D.as_some z
        rw [nx0] at ho
        cases ho
      refine ⟨d, a, l, as, ls, x, li, _, rfl, D1, I1, xas, (ne_of_none hd nx0).symm, (ne_of_none D.kept hli).symm, Nat.lt_of_not_le c4, fun H2 D2 kp2 => ?_⟩
      refine k _ H2 (by rw [ea]) ?_ fun b o e' hb => ?_
      · rw [ea]
        obtain ⟨f1, f2, f3, f4⟩ := hF
        refine ⟨l, _, _, D2, .inl f1, .inl f2, fun b hb => ?_, fun b hb => ?_⟩
        · rcases List.mem_append.mp hb with z | z
          · exact .inl (f3 b z)
          · rw [List.mem_singleton] at z
            exact .inr (z ▸ nx0)
        · rcases List.mem_cons.mp hb with z | z
          · exact .inr (z ▸ hli)
          · exact .inl (f4 b z)
      · exact kp2 b o (s2 b o e') fun z => hb (z ▸ hF.2.1)
end
end Er
set_option Elab.async false
set_option maxRecDepth 100000
set_option maxHeartbeats 4000000
set_option linter.unusedVariables false
set_option autoImplicit false
namespace Er
open PySem PySem.Spec PyProof.Rows L2
/-! ### len(set(xs)), ints, some perhaps twice -/
/-- each once, as first met -/
def once (ns : List Int) : List Int := firstMet (fun i => ns.getD i 0) ns.length
theorem dedup_fold : ∀ (l acc : List Int), acc.Nodup → (l.foldl step_dedup acc).Nodup ∧ ∀ k, k ∈ l.foldl step_dedup acc ↔ k ∈ acc ∨ k ∈ l
  | [], acc, h => ⟨h, fun k => by simp⟩
  | x :: l, acc, h => by
    have step : (step_dedup acc x).Nodup ∧ ∀ k, k ∈ step_dedup acc x ↔ k ∈ acc ∨ k = x := by
      unfold step_dedup
      by_cases c : (acc.any fun y => y == x) = true
      · rw [if_pos c]
        refine ⟨h, fun k => ⟨.inl, fun q => q.elim id fun e => ?_⟩⟩
        obtain ⟨y, hy, ey⟩ := List.any_eq_true.mp c
        rw [e, ← eq_of_beq ey]
        exact hy
      · rw [if_neg c]
        refine ⟨?_, fun k => by rw [List.mem_append, List.mem_singleton]⟩
        rw [List.nodup_append]
        refine ⟨h, by simp, fun u hu v hv => ?_⟩
        rw [List.mem_singleton] at hv
        intro e
        refine c (List.any_eq_true.mpr ⟨u, hu, ?_⟩)
        rw [e, hv]
        exact beq_self_eq_true _
    obtain ⟨i1, i2⟩ := dedup_fold l (step_dedup acc x) step.1
    refine ⟨i1, fun k => ?_⟩
    rw [List.foldl_cons, i2 k, step.2 k, List.mem_cons]
    exact or_assoc
theorem range_getD (ns : List Int) : (List.range ns.length).map (fun i => ns.getD i 0) = ns := by
  apply List.ext_getElem
  · simp
  · intro i h1 h2
    simp [List.getD_eq_getElem?_getD, h2]
theorem once_nodup (ns : List Int) : (once ns).Nodup := by
  unfold once firstMet
  exact (dedup_fold _ [] List.nodup_nil).1
theorem once_mem (ns : List Int) (k : Int) : k ∈ once ns ↔ k ∈ ns := by
  unfold once firstMet
  rw [(dedup_fold _ [] List.nodup_nil).2 k, range_getD]
  simp
theorem once_len (ns : List Int) : (once ns).length ≤ ns.length := (once_nodup ns).length_le_of_subset fun k hk => (once_mem ns k).mp hk
/-- the same members, no one twice: the same length -/
theorem same_len {α : Type} {l m : List α} (h1 : l.Nodup) (h2 : m.Nodup) (h : ∀ k, k ∈ l ↔ k ∈ m) : l.length = m.length :=
  Nat.le_antisymm (h1.length_le_of_subset fun k hk => (h k).mp hk) (h2.length_le_of_subset fun k hk => (h k).mpr hk)
theorem once_all {ns : List Int} (h : ns.Nodup) : (once ns).length = ns.length := same_len (once_nodup ns) h (once_mem ns)
theorem nodup_of_once : ∀ {ns : List Int}, (once ns).length = ns.length → ns.Nodup
  | [], _ => List.nodup_nil
  | x :: l, h => by
    have sub : (once (x :: l)).length ≤ (x :: once l).length := (once_nodup _).length_le_of_subset fun k hk => by
      rw [once_mem, List.mem_cons] at hk
      rw [List.mem_cons, once_mem]
      exact hk
    have l1 := once_len l
    rw [List.length_cons] at h sub
    have e : (once l).length = l.length := by omega
    have nd := nodup_of_once e
    refine List.nodup_cons.mpr ⟨fun hx => ?_, nd⟩
    have s2 : (once (x :: l)).length ≤ l.length := (once_nodup _).length_le_of_subset fun k hk => by
      rw [once_mem, List.mem_cons] at hk
      rcases hk with q | q
      · rw [q]; exact hx
      · exact q
    omega
theorem ints_vals : ∀ {ns : List Int} {vs : List Value}, Vals (ns.map V.int) vs → IntsAre vs ns
  | [], _, .nil => .nil
  | i :: is, _, .cons q r => by
    obtain ⟨t, rfl⟩ := q
    exact .cons i t (ints_vals r)
def tLenOnce (K : PySem.W.Frag) (te : TE) : TE := fun σ H Q => te σ H fun v H1 => ∃ (p : Addr) (ns : List Int), v = .ref p ∧ SqL K H1 p (ns.map V.int) ∧ ns.length ≤ 4000 ∧ Q (.int ((once ns).length : Nat)) H1
theorem pe_lenOnce {X : Cx} {e : Expr} {te : TE} {p1 p2 p3 pos : Pos} (h1 : Gl X "len") (h2 : X.mg "len" = none) (h3 : Gl X "set") (h4 : X.mg "set" = none) (he : PE X e te) (calm : X.calm = true := by rfl)
    (star : starEach [e] X.env = (false, eval e X.env) :: starEach [] X.env := by rfl) : PE X (.Call (.Name "len" p1) [.Call (.Name "set" p2) [e] [] p3] [] pos) (tLenOnce X.K te) := by
  refine ⟨fun pins s σ H Q I h => Call_ (ld_blt I h1 h2 boot_len ?_)⟩
  refine callWith_builtin1 (args_cons ?_ rfl) rfl rfl
  refine Call_ (ld_blt I h3 h4 boot_set ?_)
  refine callWith_type1 (args_cons (thn (he.run pins s σ H _ I h) fun u s1 ⟨x, H1, I1, rx, q⟩ => args_nil ?_) star) star rfl
  obtain ⟨p, ns, rfl, hq, hl, q⟩ := q
  cases rx
  obtain ⟨its, rv, pl, hz⟩ := I1.list hq
  have sz : its.toArray.size = ns.length := by
    rw [List.size_toArray, ← rv.length, List.length_map]
  refine call_set_list (I1.ok.hd calm) pl.isList (by simpa using ints_vals rv) (by rw [sz]; unfold scanBound; omega) fun h' tk hS hk => args_nil ?_
  rw [sz] at hS
  obtain ⟨o, es, ep, t, ho, hex, hd, _, _, _, hf, hn⟩ := hS
  have I2 : Inv X pins σ H1 { s1 with heap := h', toks := tk } := I1.kept fun b o' e' => hk b o' (Heap.lt_size e') e'
  have l1 : (once ns).length ≤ 4000 := Nat.le_trans (once_len ns) hl
  have hn' : es.size = (once ns).length := hn
  exact call_len_set ho hex hd hf (by rw [hn']; omega) ⟨.int ((once ns).length : Nat), H1, I2.tok _, ⟨_, by rw [hn']⟩, q⟩
/-! ### sorted(d), a dict of int keys, however many -/
theorem ints_by : ∀ {vs : List Value} {ns : List Int}, vs.length = ns.length → (∀ (j : Nat) (v : Value), vs[j]? = some v → ∃ i t, ns[j]? = some i ∧ v = .int i t) → IntsAre vs ns
  | [], [], _, _ => .nil
  | v :: vs, n :: ns, hl, h => by
    obtain ⟨i, t, e1, e2⟩ := h 0 v rfl
    have e3 : n = i := Option.some.inj e1
    subst e3
    subst e2
    exact .cons n t (ints_by (Nat.succ.inj hl) fun j u hu => h (j + 1) u hu)
  | [], _ :: _, hl, _ => by cases hl
  | _ :: _, [], hl, _ => by cases hl
def rSortKeys : List V → Hp → VK → Prop := fun xs H Q => ∃ (p : Addr) (kvs : List (Key × V)) (ns : List Int), xs = [.ref p] ∧ Rd H p (.dK kvs) ∧ kvs.map (·.1) = ns.map Sum.inl ∧ ns.length ≤ 4000 ∧
  ∀ (ms : List Int) (q : Addr), ms.Perm ns → ms.Pairwise (· ≤ ·) → H q = none → Q (.ref q) (upd H q (.lst (ms.map V.int)))
theorem cr_sortKeys {X : Cx} (calm : X.calm = true) : CallR X (.builtin "sorted") rSortKeys := by
  intro pins s σ H xs us Q I rl h
  obtain ⟨p, kvs, ns, rfl, hp, hk, h4, k⟩ := h
  obtain ⟨u, rfl, ru⟩ := vals1 rl
  cases ru
  obtain ⟨z, lo, vs, rel, dd⟩ := dk_rd I.hok hp
  obtain ⟨ep, at1⟩ := dd.dictAt
  have ks : vs.map (·.1) = ns.map Sum.inl := rel.keys.symm.trans hk
  have ln : vs.length = ns.length := by
    have e := congrArg List.length ks
    rwa [List.length_map, List.length_map] at e
  have line : vs.length ≤ sizeLine := by
    rw [ln, sizeLine_eq]
    omega
  refine Calls.call_function_entry kind_sorted plain_sorted entry_sorted (args_sorted1 _) ?_
  unfold Builtin.«sorted»
  refine wpAny_bind (m := checkCount "sorted" 1 1 _) (wpAny_pure (wpAny_bind ?_))
  refine PySem.W.kdu_collect (A := X.A.in1) (PySem.W.kdl_dict (knd := mixKind X.prog X.w) (kvs := vs) (ep := ep) lo) (I.ok.hd calm) at1 line fun h' tk acc old got => ?_
  have la : acc.toList.length = ns.length := by
    rw [Array.length_toList, got.1, ln]
  have ia : IntsAre acc.toList ns := ints_by la fun j v e => by
    obtain ⟨key, x, e1, e2⟩ := got.2 j v (by rw [← Array.getElem?_toList]; exact e)
    have e3 : (vs.map (·.1))[j]? = some key := by
      rw [List.getElem?_map, e1]
      rfl
    rw [ks, List.getElem?_map] at e3
    cases e4 : ns[j]? with
    | none =>
      rw [e4] at e3
      cases e3
    | some y =>
      rw [e4] at e3
      have e5 : Sum.inl y = key := Option.some.inj e3
      subst e5
      rcases keyIs_shape (show keyIs (Sum.inl y) v = true from e2) with ⟨i, t, f1, f2⟩ | ⟨i, t, f1, f2⟩
      · cases f1
        exact ⟨y, t, rfl, f2⟩
      · cases f1
  have I1 : Inv X pins σ H { s with heap := h', toks := tk } := I.kept old
  have line2 : acc.toList.length ≤ sizeLine := by
    rw [la, sizeLine_eq]
    omega
  refine wpAny_bind (wpAny_newList ?_ line2)
  have made : (h'.push (seqObj "list" acc.toList.toArray 0)).get? h'.objs.size = some (seqObj "list" acc.toList.toArray 0) := Heap.get?_push_size _ rfl
  show wpAny _ _ _ _ _ { s with heap := h'.push (seqObj "list" acc.toList.toArray 0), toks := tk }
  refine wpAny_bind (wpAny_holding (wpAny_call_entry slot_list_sort ⟨_, made, rfl⟩ entry_list_sort (SrtO.list_sort_ord (s := { s with heap := h'.push (seqObj "list" acc.toList.toArray 0), toks := tk }) SrtO.swo_int made line2
    (fun two => SrtO.ints_sortable ia two) fun out o1 o2 => ⟨.none, rfl, ?_⟩) (args_list_sort _)))
  obtain ⟨g1, g2, g3⟩ := SrtO.ints_out ia o1 o2
  obtain ⟨e', he'⟩ := sortedHeap_at (vs := acc.toList) (out := out.toArray) made
  have size1 : ((out.map SrtO.iv).map V.int).length ≤ sizeLine := by
    rw [List.length_map, g2.length_eq, ← la]
    exact line2
  refine wpAny_pure ⟨_, rfl, .ref h'.objs.size, upd H h'.objs.size (.lst ((out.map SrtO.iv).map V.int)), I1.laid (t' := tk) (fun b o e => ?_) (Nat.le_refl _) ⟨size1, out, e', vals_of_ints g1, he'⟩, rfl, k _ _ g2 g3 (I1.hok.fresh (Nat.le_refl _))⟩
  have lt : b < h'.objs.size := Heap.lt_size e
  rw [sortedHeap_old (Nat.ne_of_lt lt) (by rw [size_push']; exact Nat.lt_succ_of_lt lt)]
  exact Heap.get?_push_of_some _ e
end Er
set_option Elab.async false
set_option maxRecDepth 100000
set_option maxHeartbeats 4000000
set_option linter.unusedVariables false
set_option autoImplicit false
namespace Er
open PySem PySem.Spec PyProof.Rows L2
theorem distinct_iff : ∀ (l : List Nat), Kp187.distinct l = true ↔ l.Nodup
  | [] => by simp [Kp187.distinct]
  | x :: l => by
    unfold Kp187.distinct
    rw [Bool.and_eq_true, distinct_iff l, List.nodup_cons]
    simp
theorem natsV_eq (l : List Nat) : natsV l = (l.map fun g : Nat => (g : Int)).map V.int := by
  unfold natsV
  rw [List.map_map]
  rfl
theorem nodup_cast {l : List Nat} : (l.map fun g : Nat => (g : Int)).Nodup ↔ l.Nodup := by
  unfold List.Nodup
  rw [List.pairwise_map]
  constructor
  · exact fun h => h.imp fun {a b} q e => q (by rw [e])
  · exact fun h => h.imp fun {a b} q e => q (by omega)
section
variable {P : Program} {w : World} {K : PySem.W.Frag} {mg : Str → Option Value} {base : Heap} {CI CD : Addr}
def partsOk (row : List Nat) : Bool := decide (1 ≤ row.length) && (decide (row.length ≤ 8) && Kp187.distinct row)
def spAreParts (K : PySem.W.Frag) : Sp := fun vs H Q _ => ∃ (p : Addr) (row : List Nat), vs = [.ref p] ∧ SqL K H p (natsV row) ∧ row.length ≤ 12 ∧ Q (.bl (partsOk row)) H
theorem scPa : FnScope ["of"] ["of"] (defScope sAreParts) := ⟨rfl, rfl, rfl, by decide +kernel, rfl, by decide +kernel, by decide +kernel⟩
theorem ok_areParts {f : Addr} {fd : FuncData} (F : Fun K "are_parts" "are_parts" sAreParts f fd) (T : Txt K mg CI CD) : FnOk P w K mg base CX0 1 f fd ["of"] (spAreParts K) := by
  refine F.ok scPa (fun vs H Q E h => ?_) (fun cdv A outer s H vs Q E hr h => ?_)
  · obtain ⟨p, row, rfl, _⟩ := h
    rfl
  · obtain ⟨p, row, rfl, hS, h12, k⟩ := h
    refine ⟨_, pss_one (ps_ret (pe_and (pe_cmpR op_le pe_int (pe_callB call_len_seq (by rfl) T.bLen PySem.boot_len (pa_cons (pv 0) pa_nil)) (nomark _))
      (pe_and (pe_cmpR op_le (pe_callB call_len_seq (by rfl) T.bLen PySem.boot_len (pa_cons (pv 0) pa_nil)) (pe_gi T.kPARTS) (nomark _))
      (pe_one (pe_cmpR op_eq (pe_lenOnce rfl T.bLen rfl T.bSet (pv 0)) (pe_callB call_len_seq (by rfl) T.bLen PySem.boot_len (pa_cons (pv 0) pa_nil)) (nomark _)))))), ?_⟩
    have ll : (natsV row).length = row.length := by unfold natsV; rw [List.length_map]
    refine ⟨_, rfl, p, _, rfl, .inl hS, _, _, rfl, rfl, _, rfl, ?_⟩
    have e1 : decide ((1 : Int) ≤ (((natsV row).length : Nat) : Int)) = decide (1 ≤ row.length) := by
      rw [ll, decide_eq_decide]; omega
    have e2 : decide ((((natsV row).length : Nat) : Int) ≤ 8) = decide (row.length ≤ 8) := by
      rw [ll, decide_eq_decide]; omega
    rw [e1]
    unfold partsOk at k
    refine ite2 (fun c => ?_) (fun c => ?_)
    · rw [c] at k
      refine ⟨_, rfl, p, _, rfl, .inl hS, _, _, rfl, rfl, _, rfl, ?_⟩
      rw [e2]
      refine ite2 (fun c2 => ?_) (fun c2 => ?_)
      · rw [c2] at k
        refine ⟨_, rfl, p, row.map fun g : Nat => (g : Int), rfl, by rw [← natsV_eq]; exact hS, by rw [List.length_map]; omega, _, rfl, p, _, rfl, .inl hS, rfl, ?_⟩
        have e3 : decide (V.int ((once (row.map fun g : Nat => (g : Int))).length : Nat) = V.int (((natsV row).length : Nat) : Int)) = Kp187.distinct row := by
          rw [Bool.eq_iff_iff, decide_eq_true_eq, distinct_iff, ll]
          constructor
          · intro h
            have h2 := V.int.inj h
            refine nodup_cast.mp (nodup_of_once ?_)
            rw [List.length_map]
            omega
          · intro h
            rw [once_all (nodup_cast.mpr h), List.length_map]
        rw [e3]
        exact k
      · rw [Bool.not_eq_true] at c2
        rw [c2] at k
        exact k
    · rw [Bool.not_eq_true] at c
      rw [c] at k
      exact k
/-! ### people_of -/
def pn (a : Kp187.Abs) (g : Nat) : Nat := (Kp187.personOf a g).getD 0
/-- each is a given one, of a person below 64 -/
def Givens (a : Kp187.Abs) (gs : List Nat) : Prop := ∀ g ∈ gs, ∃ x p u, a.items[g]? = some x ∧ x.kind = .given p u ∧ p < 64
theorem Givens.pn {a : Kp187.Abs} {gs : List Nat} (h : Givens a gs) {g : Nat} (hg : g ∈ gs) : ∃ x u, a.items[g]? = some x ∧ x.kind = .given (Er.pn a g) u ∧ Er.pn a g < 64 ∧ Kp187.personOf a g = some (Er.pn a g) := by
  obtain ⟨x, p, u, e1, e2, e3⟩ := h g hg
  have e : Kp187.personOf a g = some p := by
    unfold Kp187.personOf Kp187.item
    rw [e1]
    show (match x.kind with | .given p _ => some p | .made _ _ => none) = some p
    rw [e2]
  have e' : Er.pn a g = p := by unfold Er.pn; rw [e]; rfl
  rw [e']
  exact ⟨x, u, e1, e2, e3, e⟩
theorem people_eq {a : Kp187.Abs} {gs : List Nat} (h : Givens a gs) : (once (gs.map fun g => (pn a g : Int))).length = Kp187.people a gs := by
  unfold Kp187.people
  have e : ((List.range Kp187.PEOPLE).filter fun p => gs.any fun g => Kp187.personOf a g == some p).length = (((List.range Kp187.PEOPLE).filter fun p => gs.any fun g => Kp187.personOf a g == some p).map fun p : Nat => (p : Int)).length := (List.length_map ..).symm
  rw [e]
  refine same_len (once_nodup _) ?_ fun k => ?_
  · rw [nodup_cast]
    exact List.nodup_range.sublist (List.filter_sublist ..)
  · rw [once_mem, List.mem_map, List.mem_map]
    constructor
    · rintro ⟨g, hg, rfl⟩
      obtain ⟨x, u, e1, e2, e3, e4⟩ := h.pn hg
      refine ⟨pn a g, List.mem_filter.mpr ⟨List.mem_range.mpr e3, List.any_eq_true.mpr ⟨g, hg, ?_⟩⟩, rfl⟩
      rw [e4]
      exact beq_self_eq_true _
    · rintro ⟨p, hp, rfl⟩
      obtain ⟨g, hg, eg⟩ := List.any_eq_true.mp (List.mem_filter.mp hp).2
      obtain ⟨x, u, e1, e2, e3, e4⟩ := h.pn hg
      refine ⟨g, hg, ?_⟩
      have := eq_of_beq eg
      rw [e4] at this
      rw [Option.some.inj this]
def spPeopleOf (K : PySem.W.Frag) (CD CI : Addr) : Sp := fun vs H Q _ => ∃ (d : Addr) (a : Kp187.Abs) (F : Addr → Prop) (p : Addr) (gs : List Nat), vs = [.ref d, .ref p] ∧ Desk CD CI H d a F ∧ SqL K H p (natsV gs) ∧ gs.length ≤ 4000 ∧ Givens a gs ∧
  ∀ H' q, Same H H' → H q = none → H' q = some (.lst (gs.map fun g => V.int (pn a g : Int))) → Q (.ref q) H'
theorem scPO : FnScope ["self", "given", "number"] ["self", "given"] (defScope sPeopleOf) := ⟨rfl, rfl, rfl, by decide +kernel, rfl, by decide +kernel, by decide +kernel⟩
theorem natsV_at {l : List Nat} {i : Nat} {y : V} (h : (natsV l)[i]? = some y) : ∃ g, l[i]? = some g ∧ y = V.int (g : Int) := by
  unfold natsV at h
  rw [List.getElem?_map] at h
  cases e : l[i]? with
  | none => rw [e] at h; cases h
  | some g => rw [e] at h; exact ⟨g, rfl, (Option.some.inj h).symm⟩
theorem take_more {α : Type} {l : List α} {i : Nat} {x : α} (h : l[i]? = some x) : l.take (i + 1) = l.take i ++ [x] := by
  rw [List.take_add_one, h]
  rfl
theorem ok_peopleOf {f : Addr} {fd : FuncData} (F : Fun K "people_of" "Desk.people_of" sPeopleOf f fd) (T : Txt K mg CI CD) : FnOk P w K mg base CX0 1 f fd ["self", "given"] (spPeopleOf K CD CI) := by
  refine F.ok scPO (fun vs H Q E h => ?_) (fun cdv A outer s H vs Q E hr h => ?_)
  · obtain ⟨d, a, F, p, gs, rfl, _⟩ := h
    rfl
  · obtain ⟨d, a, F, p, gs, rfl, ⟨l, as, ls, D, hF⟩, hS, h4, hG, k⟩ := h
    refine ⟨_, pss_one (ps_ret (pe_lc (own := [("number", 2)]) (g := gName 2) (tt := tYes) (te := tFld K (tOp (rIxL K) (tFld K (tVar 0) "kept") (tVar 2)) "person") rfl scPO.nd (pi_list (pv 1)) (blkOk_by (N := ["self", "given", "number"]) (sc := defScope sPeopleOf) (by decide +kernel))
      (fun _ _ _ _ _ => pg_name (i := 2) scPO.nd rfl (Or.inl rfl)) (fun _ _ _ _ _ => pts_nil) (fun _ _ _ _ _ => pe_fld (pe_ix ix_list (pe_fld (pv 0) rfl) (pv 2) (fun _ _ => rfl)) rfl))), ?_⟩
    refine ⟨_, rfl, p, rfl, ⟨_, hS⟩, fun D0 hD => ?_⟩
    refine lc_list (K := K) (a := p) (xs := natsV gs) (fun i H' => Same H H' ∧ H' D0 = some (.lst ((gs.take i).map fun g => V.int (pn a g : Int)))) ⟨Same.new hD, upd_same⟩ (fun i H' _ ⟨s', _⟩ => s'.seq hS) ?_ ?_
    · rintro i y H' hi ⟨s', hD'⟩
      obtain ⟨g, hg, rfl⟩ := natsV_at hi
      have hgs : g ∈ gs := List.mem_of_getElem? hg
      obtain ⟨x, u, e1, e2, e3, e4⟩ := hG.pn hgs
      have D' := D.same s'
      obtain ⟨dx, hd⟩ := D'.obj
      obtain ⟨q, li, dq, f1, f2, f3, hq, _⟩ := D'.get e1
      refine ⟨rfl, _, rfl, d, CD, dx, _, _, rfl, hd, T.clD, T.nKept, dF_kept, _, rfl, l, _, _, _, rfl, rfl, SqL.of D'.kept, atI_nat f2, q, CI, dq, _, _, rfl, hq, T.clI, T.nPerson, iF_person, _, hD', ?_, ?_, ?_⟩
      · rw [List.length_map, List.length_take]
        exact Nat.lt_of_le_of_lt (Nat.le_trans (Nat.min_le_right _ _) h4) (by decide)
      · exact fun b o e => by
          rw [upd_ne (ne_of_none e hD)]
          exact s' b o e
      · rw [upd_same, take_more hg, List.map_append, e2]
        rfl
    · rintro H' ⟨s', hD'⟩
      have ln : (natsV gs).length = gs.length := by unfold natsV; rw [List.length_map]
      rw [ln, List.take_length] at hD'
      exact k H' D0 s' hD hD'
end
end Er
set_option Elab.async false
set_option maxRecDepth 100000
set_option maxHeartbeats 4000000
set_option linter.unusedVariables false
set_option autoImplicit false
namespace Er
open PySem PySem.Spec PyProof.Rows L2
/-- the keys of a dict of whole numbers -/
def KeysAre (kvs : List (Key × V)) (ks : List Nat) : Prop := kvs.map (·.1) = ks.map fun g : Nat => (Sum.inl (g : Int) : Key)
theorem keys_put {kvs : List (Key × V)} {ks : List Nat} (h : KeysAre kvs ks) (g : Nat) (v : V) : KeysAre (putK kvs (Sum.inl (g : Int)) v) (if g ∈ ks then ks else ks ++ [g]) := by
  unfold putK KeysAre
  have hm : (kvs.any fun kv => decide (kv.1 = Sum.inl (g : Int))) = decide (g ∈ ks) := by
    rw [Bool.eq_iff_iff, decide_eq_true_eq, List.any_eq_true]
    constructor
    · rintro ⟨kv, h1, h2⟩
      have e : kv.1 = Sum.inl (g : Int) := of_decide_eq_true h2
      have : Sum.inl (g : Int) ∈ kvs.map (·.1) := e ▸ List.mem_map_of_mem h1
      rw [h, List.mem_map] at this
      obtain ⟨g', h3, h4⟩ := this
      have e2 : (g' : Int) = (g : Int) := Sum.inl.inj h4
      have e3 : g' = g := by omega
      exact e3 ▸ h3
    · intro hg
      have : (Sum.inl (g : Int) : Key) ∈ kvs.map (·.1) := by
        rw [h]
        exact List.mem_map.mpr ⟨g, hg, rfl⟩
      obtain ⟨kv, h1, h2⟩ := List.mem_map.mp this
      exact ⟨kv, h1, decide_eq_true h2⟩
  rw [hm]
  by_cases c : g ∈ ks
  · rw [if_pos (decide_eq_true c), if_pos c, ← h, List.map_map]
    apply List.map_congr_left
    intro kv _
    show (if kv.1 = Sum.inl (g : Int) then (kv.1, v) else kv).1 = kv.1
    split <;> rfl
  · rw [if_neg (by simp [c]), if_neg c, List.map_append, List.map_append, h]
    rfl
theorem keys_len {kvs : List (Key × V)} {ks : List Nat} (h : KeysAre kvs ks) : kvs.length = ks.length := by
  have := congrArg List.length h
  rwa [List.length_map, List.length_map] at this
theorem nodup_put {ks : List Nat} (h : ks.Nodup) (g : Nat) : (if g ∈ ks then ks else ks ++ [g]).Nodup := by
  by_cases c : g ∈ ks
  · rw [if_pos c]; exact h
  · rw [if_neg c, List.nodup_append]
    refine ⟨h, by simp, fun u hu v hv => ?_⟩
    rw [List.mem_singleton] at hv
    rw [hv]
    exact fun e => c (e ▸ hu)
theorem mem_put {ks : List Nat} {g k : Nat} : k ∈ (if g ∈ ks then ks else ks ++ [g]) ↔ k ∈ ks ∨ k = g := by
  by_cases c : g ∈ ks
  · rw [if_pos c]
    exact ⟨.inl, fun h => h.elim id fun e => e ▸ c⟩
  · rw [if_neg c, List.mem_append, List.mem_singleton]
/-- what is gathered is the union, in some order -/
theorem union_perm {a : Kp187.Abs} {l ks : List Nat} (nd : ks.Nodup) (h : ∀ g, g ∈ ks ↔ g ∈ Kp187.union a l) : ks.Perm (Kp187.union a l) :=
  (List.perm_ext_iff_of_nodup nd ((union_rise a l).imp fun {x y} q => Nat.ne_of_lt q)).mpr h
section
variable {P : Program} {w : World} {K : PySem.W.Frag} {mg : Str → Option Value} {base : Heap} {CI CD : Addr}
theorem good_givens {a : Kp187.Abs} (G : Good a) {l gs : List Nat} (h : ∀ g, g ∈ gs → g ∈ Kp187.union a l) : Givens a gs := fun g hg => by
  obtain ⟨_, i, _, hgi⟩ := mem_union.mp (h g hg)
  obtain ⟨x, hx, hgx⟩ := insideOf_mem hgi
  obtain ⟨_, y, p, u, h2, h3⟩ := (G.it i x hx).ins g hgx
  exact ⟨y, p, u, h2, h3, ((G.it g y h2).giv p u h3).1⟩
/-- inside_made -/
def spInsideMade (K : PySem.W.Frag) (CD CI : Addr) : Sp := fun vs H Q _ => ∃ (d : Addr) (a : Kp187.Abs) (F : Addr → Prop) (k : Nat) (p : Addr) (l : List Nat), vs = [.ref d, .int (k : Int), .ref p] ∧ Desk CD CI H d a F ∧ Good a ∧ SqL K H p (natsV l) ∧ (∀ i ∈ l, i < a.items.length) ∧
  ∀ (H' : Hp) (q : Addr) (ks : List Nat), Same H H' → H q = none → H' q = some (.lst (natsV ks)) → ks.Perm (Kp187.insideNew a (k == 1) l) → Q (.ref q) H'
theorem scIM : FnScope ["self", "kind", "of", "found", "number", "given", "inside"] ["self", "kind", "of"] (defScope sInsideMade) := ⟨rfl, rfl, rfl, by decide +kernel, rfl, by decide +kernel, by decide +kernel⟩
theorem natsV_len (l : List Nat) : (natsV l).length = l.length := by
  unfold natsV
  rw [List.length_map]
theorem ok_insideMade {f fO : Addr} {fd fdO : FuncData} (F : Fun K "inside_made" "Desk.inside_made" sInsideMade f fd) (T : Txt K mg CI CD)
    (GO : FnOk P w K mg base CX0 1 fO fdO ["self", "given"] (spPeopleOf K CD CI)) (bO : Binds K fdO ["self", "given"] []) (mO : Meth K CD "people_of" fO) : FnOk P w K mg base CX0 2 f fd ["self", "kind", "of"] (spInsideMade K CD CI) := by
  refine F.ok scIM (fun vs H Q E h => ?_) (fun cdv A outer s H vs Q E hr h => ?_)
  · obtain ⟨d, a, F, k, p, l, rfl, _⟩ := h
    rfl
  · obtain ⟨d, a, F, kd, p, ps, rfl, DD, G, hS, hlt, k⟩ := h
    have hu := hu_of hr
    refine ⟨_, pss_cons (ps_set (i := 3) scIM.nd rfl (Or.inl rfl) pe_dnewK)
      (pss_cons (ps_for PassesOwn.never rfl (pi_list (pv 2)) (pg_name (i := 4) scIM.nd rfl (Or.inl rfl))
        (pss_one (ps_for PassesOwn.never rfl (pi_list (pe_fld (pe_ix ix_list (pe_fld (pv 0) rfl) (pv 4) (fun _ _ => rfl)) rfl)) (pg_name (i := 5) scIM.nd rfl (Or.inl rfl))
          (pss_one (ps_dput hu (pv 3) (pv 5) pe_bl rfl)))))
      (pss_cons (ps_set (i := 6) scIM.nd rfl (Or.inl rfl) (pe_callTy (call_listD rfl) (by rfl) T.bList (by decide +kernel) (pa_cons (pv 3) pa_nil)))
      (pss_cons (ps_if (PW.pt (pw_and (pt_cmpR op_eq (pv 1) (pe_gi T.kCOUNTED) (nomark _)) (pw_and1 (pt_cmpR op_ge (pe_lenOnce rfl T.bLen rfl T.bSet (pe_meth (pv 0) T.clD mO GO hr bO .nil pass0 (pa_cons (pv 6) pa_nil))) (pe_fld (pv 0) rfl) (nomark _)))))
        (pss_one (ps_ret (pe_lst pa_nil))) pss_nil)
      (pss_one (ps_ret (pv 6)))))), ?_⟩
    intro d0 hd0
    obtain ⟨l, as, ls, D, hF⟩ := DD
    have lenOf : ∀ {ks : List Nat}, ks.Nodup → (∀ g ∈ ks, g < a.items.length) → ks.length ≤ 128 := fun {ks} nd hk => by
      have := nd.length_le_of_subset (l₂ := List.range a.items.length) fun g hg => List.mem_range.mpr (hk g hg)
      rw [List.length_range] at this
      exact Nat.le_trans this G.len
    refine ⟨_, rfl, p, rfl, ⟨_, (Same.new hd0).seq hS⟩, for_list (K := K) (a := p) (xs := natsV ps) (fun i σ H' => ∃ v4 v5 v6, σ = [some (.ref d), some (.int (kd : Int)), some (.ref p), some (.ref d0), v4, v5, v6] ∧ Same H H' ∧
      ∃ kvs ks, H' d0 = some (.dK kvs) ∧ KeysAre kvs ks ∧ ks.Nodup ∧ ∀ g, g ∈ ks ↔ g ∈ Kp187.union a (ps.take i))
      ⟨none, none, none, rfl, Same.new hd0, [], [], upd_same, rfl, List.nodup_nil, fun g => ?_⟩ (fun i σ H' _ ⟨_, _, _, _, s', _⟩ => s'.seq hS) ?_ ?_⟩
    · rw [mem_union]
      simp
    · rintro i y σ H' hi ⟨v4, v5, v6, rfl, s', kvs, ks, hk, hka, nd, hg⟩
      obtain ⟨n, hn, rfl⟩ := natsV_at hi
      have hnl : n < a.items.length := hlt n (List.mem_of_getElem? hn)
      have hx := List.getElem?_eq_getElem hnl
      obtain ⟨dx, hd⟩ := D.obj
      obtain ⟨q, li, dq, f1, f2, f3, hq, I⟩ := D.get hx
      obtain ⟨gs, hli, hgs⟩ := I.lst
      have ox := G.it n _ hx
      have inG : ∀ {z : Nat}, z ∈ gs ↔ z ∈ a.items[n].inside := fun {z} => hgs.mem_iff
      have hl1 : SqL K H li (natsV gs) := SqL.of hli
      refine ⟨_, rfl, d, CD, dx, _, _, rfl, s' _ _ hd, T.clD, T.nKept, dF_kept, _, rfl, l, _, _, _, rfl, rfl, SqL.of (s' _ _ D.kept), atI_nat f2, q, CI, dq, _, _, rfl, s' _ _ hq, T.clI, T.nInside, iF_inside, li, rfl, ⟨_, SqL.of (s' _ _ hli)⟩,
        for_list (K := K) (a := li) (xs := natsV gs) (fun j σ H' => ∃ v5, σ = [some (.ref d), some (.int (kd : Int)), some (.ref p), some (.ref d0), some (.int (n : Int)), v5, v6] ∧ Same H H' ∧
        ∃ kvs ks, H' d0 = some (.dK kvs) ∧ KeysAre kvs ks ∧ ks.Nodup ∧ ∀ g, g ∈ ks ↔ g ∈ Kp187.union a (ps.take i) ∨ g ∈ gs.take j)
        ⟨v5, rfl, s', kvs, ks, hk, hka, nd, fun g => by rw [hg g]; simp⟩ (fun j σ H' _ ⟨_, _, s', _⟩ => s'.seq hl1) ?_ ?_⟩
      · rintro j y σ H2 hj ⟨v5, rfl, s2, kvs2, ks2, hk2, hka2, nd2, hg2⟩
        obtain ⟨g, hgj, rfl⟩ := natsV_at hj
        have gin : g ∈ a.items[n].inside := inG.mp (List.mem_of_getElem? hgj)
        have small : kvs2.length ≤ 128 := by
          rw [keys_len hka2]
          refine lenOf nd2 fun z hz => ?_
          rcases (hg2 z).mp hz with q1 | q1
          · exact (mem_union.mp q1).1
          · exact Nat.lt_of_le_of_lt (ox.ins z (inG.mp (List.mem_of_mem_take q1))).1 hnl
        refine ⟨_, rfl, _, rfl, d0, _, rfl, DPut.k (k := Sum.inl (g : Int)) hk2 (Nat.lt_of_le_of_lt small (by decide)), ?_⟩
        refine ⟨some (.int (g : Int)), rfl, fun b o e => by rw [upd_ne (ne_of_none e hd0)]; exact s2 b o e, _, _, upd_same, keys_put hka2 g _, nodup_put nd2 g, fun z => ?_⟩
        rw [mem_put, hg2 z, take_more hgj, List.mem_append, List.mem_singleton, or_assoc]
      · rintro σ H2 ⟨v5, rfl, s2, kvs2, ks2, hk2, hka2, nd2, hg2⟩
        refine ⟨some (.int (n : Int)), v5, v6, rfl, s2, kvs2, ks2, hk2, hka2, nd2, fun z => ?_⟩
        rw [hg2 z, natsV_len, List.take_length, take_more hn, mem_union, mem_union, inG]
        constructor
        · rintro (⟨h1, m, h2, h3⟩ | h1)
          · exact ⟨h1, m, List.mem_append.mpr (.inl h2), h3⟩
          · exact ⟨Nat.lt_of_le_of_lt (ox.ins z h1).1 hnl, n, List.mem_append.mpr (.inr (List.mem_singleton.mpr rfl)), by rw [insideOf_some hx]; exact h1⟩
        · rintro ⟨h1, m, h2, h3⟩
          rcases List.mem_append.mp h2 with q1 | q1
          · exact .inl ⟨h1, m, q1, h3⟩
          · rw [List.mem_singleton] at q1
            subst q1
            rw [insideOf_some hx] at h3
            exact .inr h3
    · rintro σ H1 ⟨v4, v5, v6, rfl, s1, kvs, ks, hk, hka, nd, hg⟩
      rw [natsV_len, List.take_length] at hg
      have small : ks.length ≤ 128 := lenOf nd fun z hz => (mem_union.mp ((hg z).mp hz)).1
      have hperm := union_perm nd hg
      refine ⟨_, rfl, d0, kvs, rfl, .inl hk, fun q hq => ?_⟩
      have eql : (kvs.map fun kv => kV kv.1) = natsV ks := by
        have e : (kvs.map fun kv => kV kv.1) = (kvs.map (·.1)).map kV := by rw [List.map_map]; rfl
        rw [e, hka, List.map_map]
        rfl
      rw [eql]
      have s2 : Same H (upd H1 q (.lst (natsV ks))) := s1.trans (Same.new hq)
      have hq0 : H q = none := s1.free hq
      have hql : upd H1 q (.lst (natsV ks)) q = some (.lst (natsV ks)) := upd_same
      generalize upd H1 q (.lst (natsV ks)) = H2 at s2 hql
      have D1 := D.same s2
      obtain ⟨dx, hd⟩ := D1.obj
      refine ⟨_, rfl, rfl, _, rfl, ?_⟩
      have ek : decide (V.int (kd : Int) = V.int 1) = (kd == 1) := by
        rw [dec_int, Bool.eq_iff_iff, beq_iff_eq, beq_iff_eq]
        omega
      rw [ek]
      cases hk1 : (kd == 1) with
      | false =>
        refine iteF ⟨_, rfl, k H2 q ks s2 hq0 hql ?_⟩
        unfold Kp187.insideNew
        rw [hk1]
        exact hperm
      | true =>
        refine iteT ?_
        refine ⟨_, rfl, d, dx, _, rfl, hd, dF_no (by decide +kernel) (by decide +kernel) (by decide +kernel), _, rfl, d, a, F, q, ks, rfl, ⟨l, as, ls, D1, hF⟩, SqL.of hql, by omega, good_givens G fun g h => (hg g).mp h, fun H3 q3 s3 nq3 hq3 => ?_⟩
        have gv := good_givens G (l := ps) (gs := ks) fun g h => (hg g).mp h
        obtain ⟨dx3, hd3⟩ := (D1.same s3).obj
        refine ⟨q3, ks.map fun g => (pn a g : Int), rfl, by rw [List.map_map]; exact SqL.of hq3, by rw [List.length_map]; omega, ?_⟩
        refine ⟨_, rfl, d, CD, dx3, _, _, rfl, hd3, T.clD, T.nMany, dF_many, _, _, rfl, rfl, _, rfl, ?_⟩
        rw [people_eq gv]
        have ep : Kp187.people a ks = Kp187.people a (Kp187.union a ps) := by
          unfold Kp187.people
          congr 1
          apply List.filter_congr
          intro z _
          rw [Bool.eq_iff_iff, List.any_eq_true, List.any_eq_true]
          exact ⟨fun ⟨g, h1, h2⟩ => ⟨g, (hg g).mp h1, h2⟩, fun ⟨g, h1, h2⟩ => ⟨g, (hg g).mpr h1, h2⟩⟩
        have eI : Kp187.insideNew a (kd == 1) ps = if a.many ≤ Kp187.people a ks then [] else Kp187.union a ps := by
          unfold Kp187.insideNew
          rw [hk1, ep]
          simp
        refine ite2 (fun c => ?_) (fun c => ?_)
        · refine ⟨Nat.zero_le _, fun q2 hq2 => ?_⟩
          refine k _ q2 [] ((s2.trans s3).trans (Same.new hq2)) ((s2.trans s3).free hq2) upd_same ?_
          have := of_decide_eq_true c
          rw [eI, if_pos (by omega)]
        · refine ⟨_, rfl, k H3 q ks (s2.trans s3) hq0 (s3 _ _ hql) ?_⟩
          rw [decide_eq_true_eq] at c
          rw [eI, if_neg (by omega)]
          exact hperm
end
end Er
set_option Elab.async false
set_option maxRecDepth 100000
set_option maxHeartbeats 4000000
set_option linter.unusedVariables false
set_option autoImplicit false
namespace Er
open PySem PySem.Spec PyProof.Rows L2
/-- two ways that meet again -/
theorem ite_fork {c A R : Prop} [Decidable c] (h1 : R → c → A) (h2 : R) : if c then A else R := by
  by_cases h : c
  · rw [if_pos h]
    exact h1 h2 h
  · rw [if_neg h]
    exact h2
section
variable {P : Program} {w : World} {K : PySem.W.Frag} {mg : Str → Option Value} {base : Heap} {CI CD : Addr}
def hasAt (a : Kp187.Abs) (m i : Nat) : Bool := match Kp187.item a i with
  | some x => Kp187.has x m
  | none => false
theorem act_make (a : Kp187.Abs) (k m : Nat) (l : List Nat) (n : Nat) : Kp187.act a (.make k m l n) = if 1 < k ∨ Kp187.isSet m = false ∨ n < 1 ∨ 8 < n ∨ Kp187.distinct l = false then (a, .num (-22)) else if l.all (Kp187.there a) = false then (a, .num (-2))
    else if l.all (hasAt a m) = false then (a, .num (-13)) else if 128 ≤ a.items.length then (a, .num (-28))
    else (addI a ⟨.made (k == 1) l, m, Kp187.insideNew a (k == 1) l, none⟩, .num (a.items.length : Nat)) := rfl
def spErMake (K : PySem.W.Frag) (CD CI : Addr) : Sp := fun vs H Q _ => ∃ (d : Addr) (a : Kp187.Abs) (F : Addr → Prop) (k m : Nat) (p : Addr) (row : List Nat), vs = [.ref d, .int (k : Int), .int (m : Int), .ref p] ∧ Desk CD CI H d a F ∧ Good a ∧ SqL K H p (natsV row) ∧ row.length ≤ 12 ∧
  After CD CI H d a F (.make k m (if row.length ≤ 8 then row else []) row.length) Q
theorem scMa : FnScope ["self", "kind", "purposes", "of", "number"] ["self", "kind", "purposes", "of"] (defScope sErMake) := ⟨rfl, rfl, rfl, by decide +kernel, rfl, by decide +kernel, by decide +kernel⟩
theorem ok_erMake {f fP fQ fT fH fF fK fI fM : Addr} {fd fdP fdQ fdT fdH fdF fdK fdI fdM : FuncData} (F : Fun K "er_make" "Desk.er_make" sErMake f fd) (T : Txt K mg CI CD)
    (GP : FnOk P w K mg base CX0 1 fP fdP ["purposes"] spArePurposes) (bP : Binds K fdP ["purposes"] []) (gP : mg "are_purposes" = some (.ref fP)) (kP : PySem.W.keepIn K (.ref fP) = true)
    (GQ : FnOk P w K mg base CX0 1 fQ fdQ ["of"] (spAreParts K)) (bQ : Binds K fdQ ["of"] []) (gQ : mg "are_parts" = some (.ref fQ)) (kQ : PySem.W.keepIn K (.ref fQ) = true)
    (GT : FnOk P w K mg base CX0 2 fT fdT ["self", "number"] (spIsThere CD CI)) (bT : Binds K fdT ["self", "number"] []) (mT : Meth K CD "is_there" fT)
    (GH : FnOk P w K mg base CX0 1 fH fdH ["self", "purposes"] (spHasAll CI)) (bH : Binds K fdH ["self", "purposes"] []) (mH : Meth K CI "has_all" fH)
    (GF : FnOk P w K mg base CX0 1 fF fdF ["self"] (spIsFull CD CI)) (bF : Binds K fdF ["self"] []) (mF : Meth K CD "is_full" fF)
    (GK : FnOk P w K mg base CX0 1 fK fdK ["self", "item"] (spKeep CD CI)) (bK : Binds K fdK ["self", "item"] []) (mK : Meth K CD "keep" fK)
    (GI : FnOk P w K mg base CX0 1 fI fdI ["self", "person", "purposes", "until", "inside"] (spItemInit CI)) (bI : Binds K fdI ["self", "person", "purposes", "until", "inside"] []) (MI : Mk K CI fI)
    (GM : FnOk P w K mg base CX0 2 fM fdM ["self", "kind", "of"] (spInsideMade K CD CI)) (bM : Binds K fdM ["self", "kind", "of"] []) (mM : Meth K CD "inside_made" fM) :
    FnOk P w K mg base CX0 3 f fd ["self", "kind", "purposes", "of"] (spErMake K CD CI) := by
  refine F.ok scMa (fun vs H Q E h => ?_) (fun cdv A outer s H vs Q E hr h => ?_)
  · obtain ⟨d, a, F, k, m, p, row, rfl, _⟩ := h
    rfl
  · obtain ⟨d, a, F, kd, m, p, row, rfl, DD, G, hS, h12, k⟩ := h
    have hr1 : Room 1 _ := hr.mono (by decide)
    refine ⟨_, pss_cons (ps_if (PW.pt (pw_and (pt_cmpR op_ne (pv 1) (pe_gi T.kPLAIN) (nomark _)) (pw_and1 (pt_cmpR op_ne (pv 1) (pe_gi T.kCOUNTED) (nomark _))))) (pss_one (ps_ret (pe_un un_neg (pe_gi T.kWRONG)))) pss_nil)
      (pss_cons (ps_if (PW.pt (pw_or (pt_not (pt_val (pe_call GP hr1 rfl gP kP bP .nil pass0 (pa_cons (pv 2) pa_nil)))) (pw_or1 (pt_not (pt_val (pe_call GQ hr1 rfl gQ kQ bQ .nil pass0 (pa_cons (pv 3) pa_nil))))))) (pss_one (ps_ret (pe_un un_neg (pe_gi T.kWRONG)))) pss_nil)
      (pss_cons (ps_if (pt_not (pt_val (pe_callB (cr_all rfl) (by rfl) T.bAll (by decide +kernel) (pa_cons (pe_lc (own := [("number", 4)]) (g := gName 4) (tt := tYes) (te := tMeth CD "is_there" (spIsThere CD CI) [] E0 (tVar 0) (tCons (tVar 4) tNil)) rfl scMa.nd (pi_list (pv 3)) (blkOk_by (N := ["self", "kind", "purposes", "of", "number"]) (sc := defScope sErMake) (by decide +kernel))
        (fun _ _ _ _ _ => pg_name (i := 4) scMa.nd rfl (Or.inl rfl)) (fun _ _ _ _ _ => pts_nil) (fun _ _ _ _ _ => pe_meth (pv 0) T.clD mT GT hr bT .nil pass0 (pa_cons (pv 4) pa_nil))) pa_nil)))) (pss_one (ps_ret (pe_un un_neg (pe_gi T.kABSENT)))) pss_nil)
      (pss_cons (ps_if (pt_not (pt_val (pe_callB (cr_all rfl) (by rfl) T.bAll (by decide +kernel) (pa_cons (pe_lc (own := [("number", 4)]) (g := gName 4) (tt := tYes) (te := tMeth CI "has_all" (spHasAll CI) [] E0 (tOp (rIxL K) (tFld K (tVar 0) "kept") (tVar 4)) (tCons (tVar 2) tNil)) rfl scMa.nd (pi_list (pv 3)) (blkOk_by (N := ["self", "kind", "purposes", "of", "number"]) (sc := defScope sErMake) (by decide +kernel))
        (fun _ _ _ _ _ => pg_name (i := 4) scMa.nd rfl (Or.inl rfl)) (fun _ _ _ _ _ => pts_nil) (fun _ _ _ _ _ => pe_meth (pe_ix ix_list (pe_fld (pv 0) rfl) (pv 4) (fun _ _ => rfl)) T.clI mH GH hr1 bH .nil pass0 (pa_cons (pv 2) pa_nil))) pa_nil)))) (pss_one (ps_ret (pe_un un_neg (pe_gi T.kDENIED)))) pss_nil)
      (pss_cons (ps_if (pt_val (pe_meth0 (pv 0) T.clD mF GF hr1 bF .nil pass0)) (pss_one (ps_ret (pe_un un_neg (pe_gi T.kFULL)))) pss_nil)
      (pss_one (ps_ret (pe_meth (pv 0) T.clD mK GK hr1 bK .nil pass0 (pa_cons (pe_make MI GI hr rfl T.gI bI .nil pass0 (pa_cons pe_non (pa_cons (pv 2) (pa_cons pe_non (pa_cons (pe_meth (pv 0) T.clD mM GM hr bM .nil pass0 (pa_cons (pv 1) (pa_cons (pv 3) pa_nil))) pa_nil))))) pa_nil)))))))), ?_⟩
    obtain ⟨l, as, ls, D, hF⟩ := DD
    have DD : Desk CD CI H d a F := ⟨l, as, ls, D, hF⟩
    have no : (1 < kd ∨ Kp187.isSet m = false ∨ row.length < 1 ∨ 8 < row.length ∨ Kp187.distinct (if row.length ≤ 8 then row else []) = false) → Q (.int (-22)) H := fun c => k.still DD (by rw [act_make, if_pos c])
    have ek : ∀ j : Nat, (!decide (V.int (kd : Int) = V.int (j : Int))) = decide (kd ≠ j) := fun j => by
      rw [dec_int, Bool.eq_iff_iff, decide_eq_true_eq]
      simp
      omega
    by_cases hk : 1 < kd
    · refine ⟨_, rfl, rfl, _, rfl, ?_⟩
      rw [show (0 : Int) = ((0 : Nat) : Int) from rfl, ek 0, decide_eq_true (show kd ≠ 0 by omega)]
      refine iteT ⟨_, rfl, rfl, _, rfl, ?_⟩
      rw [show (1 : Int) = ((1 : Nat) : Int) from rfl, ek 1, decide_eq_true (show kd ≠ 1 by omega)]
      exact iteT ⟨_, rfl, no (.inl hk)⟩
    refine ⟨_, rfl, rfl, _, rfl, ?_⟩
    refine ite_fork (fun r c => ?_) ?_
    · rw [show (0 : Int) = ((0 : Nat) : Int) from rfl, ek 0, decide_eq_true_eq] at c
      refine ⟨_, rfl, rfl, _, rfl, ?_⟩
      rw [show (1 : Int) = ((1 : Nat) : Int) from rfl, ek 1, decide_eq_false (show ¬ kd ≠ 1 by omega)]
      exact iteF r
    refine ⟨_, rfl, _, rfl, _, rfl, ?_⟩
    rw [isSet_eq]
    cases hm : Kp187.isSet m with
    | false => exact iteT ⟨_, rfl, no (.inr (.inl hm))⟩
    | true =>
    refine iteF ⟨_, rfl, p, row, rfl, hS, h12, _, rfl, ?_⟩
    cases hp : partsOk row with
    | false =>
      refine iteT ⟨_, rfl, no (.inr (.inr ?_))⟩
      by_cases c1 : row.length < 1
      · exact .inl c1
      by_cases c2 : 8 < row.length
      · exact .inr (.inl c2)
      refine .inr (.inr ?_)
      rw [if_pos (by omega)]
      unfold partsOk at hp
      rw [decide_eq_true (show 1 ≤ row.length by omega), decide_eq_true (show row.length ≤ 8 by omega)] at hp
      exact hp
    | true =>
    refine iteF ?_
    unfold partsOk at hp
    rw [Bool.and_eq_true, Bool.and_eq_true, decide_eq_true_eq, decide_eq_true_eq] at hp
    rw [if_pos hp.2.1] at k no
    have ok : ¬ (1 < kd ∨ Kp187.isSet m = false ∨ row.length < 1 ∨ 8 < row.length ∨ Kp187.distinct row = false) := by
      rintro (h | h | h | h | h)
      · exact hk h
      · rw [hm] at h; cases h
      · omega
      · omega
      · rw [hp.2.2] at h; cases h
    have lnR : (natsV row).length = row.length := by unfold natsV; rw [List.length_map]
    -- all([self.is_there(number) for number in of])
    refine ⟨_, rfl, p, rfl, ⟨_, hS⟩, fun D0 hD0 => ?_⟩
    refine lc_list (K := K) (a := p) (xs := natsV row) (fun i H' => Same H H' ∧ H' D0 = some (.lst (((row.take i).map (Kp187.there a)).map V.bl))) ⟨Same.new hD0, upd_same⟩ (fun i H' _ ⟨s', _⟩ => s'.seq hS) ?_ ?_
    · rintro i y H' hi ⟨s', hD'⟩
      obtain ⟨g, hg, rfl⟩ := natsV_at hi
      have D' := D.same s'
      obtain ⟨dx, hd⟩ := D'.obj
      refine ⟨rfl, _, rfl, d, dx, _, rfl, hd, dF_no (by decide +kernel) (by decide +kernel) (by decide +kernel), _, rfl, d, a, F, g, rfl, DD.same s', _, hD', ?_, ?_, ?_⟩
      · rw [List.length_map, List.length_map, List.length_take]
        exact Nat.lt_of_le_of_lt (Nat.le_trans (Nat.min_le_right _ _) h12) (by decide)
      · exact fun b o e => by
          rw [upd_ne (ne_of_none e hD0)]
          exact s' b o e
      · rw [upd_same, take_more hg, List.map_append, List.map_append]
        rfl
    rintro H1 ⟨s1, hD1⟩
    rw [lnR, List.take_length] at hD1
    refine ⟨D0, row.map (Kp187.there a), rfl, SqL.of hD1, _, rfl, ?_⟩
    have k1 : ∀ {v : Int} {H'}, Same H H' → Kp187.act a (.make kd m row row.length) = (a, .num v) → Q (.int v) H' := fun {v H'} s' e => by
      refine k v H' (by rw [e]) ?_ (Keeps.of_same s')
      rw [e]
      exact (DD.same s').mono fun b hb => .inl hb
    have ea : (row.map (Kp187.there a)).all id = row.all (Kp187.there a) := by rw [List.all_map]; rfl
    rw [ea]
    cases ht : row.all (Kp187.there a) with
    | false =>
      refine iteT ⟨_, rfl, k1 s1 ?_⟩
      rw [act_make, if_neg ok, if_pos ht]
    | true =>
    refine iteF ?_
    have allt := List.all_eq_true.mp ht
    -- all([self.kept[number].has_all(purposes) for number in of])
    refine ⟨_, rfl, p, rfl, ⟨_, s1.seq hS⟩, fun D2 hD2 => ?_⟩
    refine lc_list (K := K) (a := p) (xs := natsV row) (fun i H' => Same H H' ∧ H' D2 = some (.lst (((row.take i).map (hasAt a m)).map V.bl))) ⟨s1.trans (Same.new hD2), upd_same⟩ (fun i H' _ ⟨s', _⟩ => s'.seq hS) ?_ ?_
    · rintro i y H' hi ⟨s', hD'⟩
      obtain ⟨g, hg, rfl⟩ := natsV_at hi
      have D' := D.same s'
      obtain ⟨dx, hd⟩ := D'.obj
      obtain ⟨x, hx, hl⟩ := there_some (allt g (List.mem_of_getElem? hg))
      obtain ⟨q, li, dq, f1, f2, f3, hq, _⟩ := D'.get hx
      refine ⟨rfl, _, rfl, d, CD, dx, _, _, rfl, hd, T.clD, T.nKept, dF_kept, _, rfl, l, _, _, _, rfl, rfl, SqL.of D'.kept, atI_nat f2, q, dq, _, rfl, hq, iF_not (by decide +kernel),
        _, rfl, q, dq, _, x.purposes, _, li, _, _, _, m, rfl, hq, _, hD', ?_, ?_, ?_⟩
      · rw [List.length_map, List.length_map, List.length_take]
        exact Nat.lt_of_le_of_lt (Nat.le_trans (Nat.min_le_right _ _) h12) (by decide)
      · exact fun b o e => by
          rw [upd_ne (ne_of_none e (s1.free hD2))]
          exact s' b o e
      · have eh : decide (x.purposes &&& m = m) = hasAt a m g := by
          unfold hasAt Kp187.item
          rw [hx]
          show _ = (x.purposes &&& m == m)
          rw [Bool.eq_iff_iff, decide_eq_true_eq, beq_iff_eq]
        rw [upd_same, take_more hg, List.map_append, List.map_append, eh]
        rfl
    rintro H2 ⟨s2, hD2'⟩
    rw [lnR, List.take_length] at hD2'
    refine ⟨D2, row.map (hasAt a m), rfl, SqL.of hD2', _, rfl, ?_⟩
    have eb : (row.map (hasAt a m)).all id = row.all (hasAt a m) := by rw [List.all_map]; rfl
    rw [eb]
    cases hh : row.all (hasAt a m) with
    | false =>
      refine iteT ⟨_, rfl, k1 s2 ?_⟩
      rw [act_make, if_neg ok, if_neg (by rw [ht]; simp), if_pos hh]
    | true =>
    refine iteF ?_
    have D2 := D.same s2
    obtain ⟨dx, hd⟩ := D2.obj
    refine ⟨_, rfl, d, dx, _, rfl, hd, dF_no (by decide +kernel) (by decide +kernel) (by decide +kernel), d, a, F, rfl, DD.same s2, _, rfl, ?_⟩
    refine ite2 (fun c => ⟨_, rfl, k1 s2 ?_⟩) (fun c4 => ?_)
    · rw [act_make, if_neg ok, if_neg (by rw [ht]; simp), if_neg (by rw [hh]; simp), if_pos (of_decide_eq_true c)]
    rw [decide_eq_true_eq] at c4
    have ea : Kp187.act a (.make kd m row row.length) = (addI a ⟨.made (kd == 1) row, m, Kp187.insideNew a (kd == 1) row, none⟩, .num (a.items.length : Nat)) := by
      rw [act_make, if_neg ok, if_neg (by rw [ht]; simp), if_neg (by rw [hh]; simp), if_neg c4]
    -- self.keep(Item(None, purposes, None, self.inside_made(kind, of)))
    refine ⟨_, rfl, d, dx, _, rfl, hd, dF_no (by decide +kernel) (by decide +kernel) (by decide +kernel), ?_⟩
    refine ⟨_, rfl, _, rfl, d, dx, _, rfl, hd, dF_no (by decide +kernel) (by decide +kernel) (by decide +kernel), _, rfl, _, rfl, ?_⟩
    refine ⟨d, a, F, kd, p, row, rfl, DD.same s2, G, s2.seq hS, fun i hi => ?_, fun H3 li ks s3 hli hl3 hperm => ?_⟩
    · obtain ⟨x, hx, _⟩ := there_some (allt i hi)
      exact (List.getElem?_eq_some_iff.mp hx).1
    intro x dx' nx ndx nex
    refine ⟨x, dx', _, _, _, li, rfl, upd_same, fun H4 hx kp => ⟨rfl, ?_⟩⟩
    have s23 := s2.trans s3
    have s4 : Same H3 H4 := Same.made nx ndx kp
    have s24 : Same H H4 := s23.trans s4
    have nx0 : H x = none := s23.free nx
    have hli0 : H li = none := s2.free hli
    have D4 := D.same s24
    have I4 : ItemAt CI H4 x li ⟨.made (kd == 1) row, m, Kp187.insideNew a (kd == 1) row, none⟩ := ⟨⟨dx', hx⟩, ⟨ks, s4 _ _ hl3, hperm⟩, fun g e => nomatch e⟩
    have xas : x ∉ as := fun z => by
      obtain ⟨o, ho⟩ := D.as_some z
      rw [nx0] at ho
      cases ho
    obtain ⟨dxd, hd0⟩ := D.obj
    refine ⟨d, a, l, as, ls, x, li, _, rfl, D4, I4, xas, (ne_of_none hd0 nx0).symm, (ne_of_none D.kept hli0).symm, Nat.lt_of_not_le c4, fun H5 D5 kp5 => ?_⟩
    refine k _ H5 (by rw [ea]) ?_ fun b o e' hb => ?_
    · rw [ea]
      obtain ⟨f1, f2, f3, f4⟩ := hF
      refine ⟨l, _, _, D5, .inl f1, .inl f2, fun b hb => ?_, fun b hb => ?_⟩
      · rcases List.mem_append.mp hb with z | z
        · exact .inl (f3 b z)
        · rw [List.mem_singleton] at z
          exact .inr (z ▸ nx0)
      · rcases List.mem_cons.mp hb with z | z
        · exact .inr (z ▸ hli0)
        · exact .inl (f4 b z)
    · exact kp5 b o (s24 b o e') fun z => hb (z ▸ hF.2.1)
end
end Er
set_option Elab.async false
set_option maxRecDepth 100000
set_option maxHeartbeats 4000000
set_option linter.unusedVariables false
set_option autoImplicit false
namespace Er
open PySem PySem.Spec PyProof.Rows L2
/-- the items of these numbers -/
def pick (as : List Addr) (js : List Nat) : List V := js.map fun j => V.ref (as.getD j 0)
theorem pick_at {as : List Addr} {js : List Nat} {i : Nat} {y : V} (h : (pick as js)[i]? = some y) : ∃ j, js[i]? = some j ∧ y = V.ref (as.getD j 0) := by
  unfold pick at h
  rw [List.getElem?_map] at h
  cases e : js[i]? with
  | none => rw [e] at h; cases h
  | some j => rw [e] at h; exact ⟨j, rfl, (Option.some.inj h).symm⟩
theorem getD_of {as : List Addr} {j : Nat} {p : Addr} (h : as[j]? = some p) : as.getD j 0 = p := by
  rw [List.getD_eq_getElem?_getD, h]
  rfl
theorem inV_nats (g : Nat) (gs : List Nat) : inV (.int (g : Int)) (natsV gs) = gs.contains g := by
  unfold inV natsV
  rw [List.any_map, Bool.eq_iff_iff, List.any_eq_true, List.contains_iff_mem]
  constructor
  · rintro ⟨z, h1, h2⟩
    have e : ((z : Int) == (g : Int)) = true := h2
    rw [beq_iff_eq] at e
    have : z = g := by omega
    exact this ▸ h1
  · intro h
    refine ⟨g, h, ?_⟩
    show ((g : Int) == (g : Int)) = true
    exact beq_self_eq_true _
theorem flat_nats (gs : List Nat) : (natsV gs).all flatV = true := by
  unfold natsV
  rw [List.all_map, List.all_eq_true]
  intro z _
  rfl
theorem filter_len (n : Nat) (p : Nat → Bool) : ((List.range n).filter p).length ≤ n := by
  have := List.length_filter_le p (List.range n)
  rw [List.length_range] at this
  exact this
theorem range_more (n : Nat) (p : Nat → Bool) : (List.range (n + 1)).filter p = (List.range n).filter p ++ (if p n = true then [n] else []) := by
  rw [List.range_succ, List.filter_append, List.filter_cons]
  rfl
theorem take_filter {js : List Nat} {i j : Nat} (p : Nat → Bool) (h : js[i]? = some j) : (js.take (i + 1)).filter p = (js.take i).filter p ++ (if p j = true then [j] else []) := by
  rw [take_more h, List.filter_append, List.filter_cons]
  rfl
theorem pick_app (as : List Addr) (l m : List Nat) : pick as (l ++ m) = pick as l ++ pick as m := List.map_append
theorem pick_len (as : List Addr) (l : List Nat) : (pick as l).length = l.length := List.length_map ..
theorem natsV_app (l m : List Nat) : natsV (l ++ m) = natsV l ++ natsV m := List.map_append
theorem thereJ_le (a : Kp187.Abs) : (thereJ a).length ≤ a.items.length := filter_len _ _
section
variable {P : Program} {w : World} {K : PySem.W.Frag} {mg : Str → Option Value} {base : Heap} {CI CD : Addr}
/-- all_there -/
def spAllThere (CD CI : Addr) : Sp := fun vs H Q _ => ∃ (d : Addr) (a : Kp187.Abs) (l : Addr) (as ls : List Addr), vs = [.ref d] ∧ DeskAt CD CI H d a l as ls ∧ ∀ (H' : Hp) (q : Addr), Same H H' → H q = none → H' q = some (.lst (pick as (thereJ a))) → Q (.ref q) H'
theorem scAT : FnScope ["self", "item"] ["self"] (defScope sAllThere) := ⟨rfl, rfl, rfl, by decide +kernel, rfl, by decide +kernel, by decide +kernel⟩
theorem ok_allThere {f fE : Addr} {fd fdE : FuncData} (F : Fun K "all_there" "Desk.all_there" sAllThere f fd) (T : Txt K mg CI CD) (GE : FnOk P w K mg base CX0 1 fE fdE ["self"] (spIsErased CI)) (bE : Binds K fdE ["self"] []) (mE : Meth K CI "is_erased" fE) :
    FnOk P w K mg base CX0 2 f fd ["self"] (spAllThere CD CI) := by
  refine F.ok scAT (fun vs H Q E h => ?_) (fun cdv A outer s H vs Q E hr h => ?_)
  · obtain ⟨d, a, l, as, ls, rfl, _⟩ := h
    rfl
  · obtain ⟨d, a, l, as, ls, rfl, D, k⟩ := h
    refine ⟨_, pss_one (ps_ret (pe_lc (own := [("item", 1)]) (g := gName 1) (tt := tNot (tB (tMeth CI "is_erased" (spIsErased CI) [] E0 (tVar 1) tNil))) (te := tVar 1) rfl scAT.nd (pi_list (pe_fld (pv 0) rfl)) (blkOk_by (N := ["self", "item"]) (sc := defScope sAllThere) (by decide +kernel))
      (fun _ _ _ _ _ => pg_name (i := 1) scAT.nd rfl (Or.inl rfl)) (fun _ _ _ _ _ => pts_one (pt_not (pt_val (pe_meth0 (pv 1) T.clI mE GE hr bE .nil pass0)))) (fun _ _ _ _ _ => pv 1))), ?_⟩
    obtain ⟨dx, hd⟩ := D.obj
    refine ⟨_, rfl, d, CD, dx, _, _, rfl, hd, T.clD, T.nKept, dF_kept, l, rfl, ⟨_, SqL.of D.kept⟩, fun D0 hD => ?_⟩
    refine lc_list (K := K) (a := l) (xs := as.map V.ref) (fun i H' => Same H H' ∧ H' D0 = some (.lst (pick as ((List.range i).filter (Kp187.there a))))) ⟨Same.new hD, upd_same⟩ (fun i H' _ ⟨s', _⟩ => SqL.of (s' _ _ D.kept)) ?_ ?_
    · rintro i y H' hi ⟨s', hD'⟩
      have hi2 : i < a.items.length := by
        have := (List.getElem?_eq_some_iff.mp hi).1
        rw [List.length_map, D.len] at this
        exact this
      have hx := List.getElem?_eq_getElem hi2
      obtain ⟨p, li, dp, e1, e2, e3, hp, I⟩ := D.get hx
      have : V.ref p = y := Option.some.inj (e2.symm.trans hi)
      subst this
      refine ⟨rfl, _, rfl, p, dp, _, rfl, s' _ _ hp, iF_not (by decide +kernel), p, dp, _, _, _, li, whyN a.items[i].gone, _, _, rfl, s' _ _ hp, _, rfl, ?_⟩
      rw [I.er]
      show if (!a.items[i].gone.isSome) = true then _ else _
      rw [Option.not_isSome]
      have et : Kp187.there a i = a.items[i].gone.isNone := by rw [there_eq, hx]
      have more := range_more i (Kp187.there a)
      rw [et] at more
      have nD : H D0 = none := hD
      cases c : a.items[i].gone.isNone with
      | true =>
        refine iteT ⟨_, rfl, _, hD', ?_, same_upd s' nD, ?_⟩
        · rw [pick_len]
          exact Nat.lt_of_le_of_lt (Nat.le_trans (filter_len i _) (Nat.le_trans (Nat.le_of_lt hi2) D.sz)) (by decide)
        · rw [c, if_pos rfl] at more
          rw [upd_same, more, pick_app]
          show _ = some (HO.lst (_ ++ [V.ref (as.getD i 0)]))
          rw [getD_of e1]
      | false =>
        refine iteF ⟨s', ?_⟩
        rw [c, if_neg (by simp), List.append_nil] at more
        rw [more]
        exact hD'
    · rintro H' ⟨s', hD'⟩
      rw [List.length_map, D.len] at hD'
      exact k H' D0 s' hD hD'
/-- all_with -/
def spAllWith (CD CI : Addr) : Sp := fun vs H Q _ => ∃ (d : Addr) (a : Kp187.Abs) (l : Addr) (as ls : List Addr) (g : Nat), vs = [.ref d, .int (g : Int)] ∧ DeskAt CD CI H d a l as ls ∧ ∀ (H' : Hp) (q : Addr), Same H H' → H q = none → H' q = some (.lst (pick as (withJ a g))) → Q (.ref q) H'
theorem scAW : FnScope ["self", "given", "item"] ["self", "given"] (defScope sAllWith) := ⟨rfl, rfl, rfl, by decide +kernel, rfl, by decide +kernel, by decide +kernel⟩
theorem ok_allWith {f fA : Addr} {fd fdA : FuncData} (F : Fun K "all_with" "Desk.all_with" sAllWith f fd) (T : Txt K mg CI CD) (GA : FnOk P w K mg base CX0 2 fA fdA ["self"] (spAllThere CD CI)) (bA : Binds K fdA ["self"] []) (mA : Meth K CD "all_there" fA) :
    FnOk P w K mg base CX0 3 f fd ["self", "given"] (spAllWith CD CI) := by
  refine F.ok scAW (fun vs H Q E h => ?_) (fun cdv A outer s H vs Q E hr h => ?_)
  · obtain ⟨d, a, l, as, ls, g, rfl, _⟩ := h
    rfl
  · obtain ⟨d, a, l, as, ls, g, rfl, D, k⟩ := h
    refine ⟨_, pss_one (ps_ret (pe_lc (own := [("item", 2)]) (g := gName 2) (tt := tTest (tOp (rIn K false) (tVar 1) (tFld K (tVar 2) "inside"))) (te := tVar 2) rfl scAW.nd (pi_list (pe_meth0 (pv 0) T.clD mA GA hr bA .nil pass0)) (blkOk_by (N := ["self", "given", "item"]) (sc := defScope sAllWith) (by decide +kernel))
      (fun _ _ _ _ _ => pg_name (i := 2) scAW.nd rfl (Or.inl rfl)) (fun _ _ _ _ _ => pts_one (pt_cmpR op_in_seq (pv 1) (pe_fld (pv 2) rfl) rfl)) (fun _ _ _ _ _ => pv 2))), ?_⟩
    obtain ⟨dx, hd⟩ := D.obj
    refine ⟨_, rfl, d, dx, _, rfl, hd, dF_no (by decide +kernel) (by decide +kernel) (by decide +kernel), d, a, l, as, ls, rfl, D, fun H1 q1 s1 nq1 hq1 => ?_⟩
    refine ⟨q1, rfl, ⟨_, SqL.of hq1⟩, fun D0 hD => ?_⟩
    refine lc_list (K := K) (a := q1) (xs := pick as (thereJ a)) (fun i H' => Same H1 H' ∧ H' D0 = some (.lst (pick as (((thereJ a).take i).filter fun j => (Kp187.insideOf a j).contains g)))) ⟨Same.new hD, upd_same⟩ (fun i H' _ ⟨s', _⟩ => SqL.of (s' _ _ hq1)) ?_ ?_
    · rintro i y H' hi ⟨s', hD'⟩
      obtain ⟨j, hj, rfl⟩ := pick_at hi
      obtain ⟨x, hx, _⟩ := mem_thereJ.mp (List.mem_of_getElem? hj)
      obtain ⟨p, li, dp, e1, e2, e3, hp, I⟩ := (D.same s1).get hx
      obtain ⟨gs, hli, hgs⟩ := I.lst
      rw [getD_of e1]
      refine ⟨rfl, _, rfl, _, rfl, p, CI, dp, _, _, rfl, s' _ _ hp, T.clI, T.nInside, iF_inside, li, _, rfl, .inl (SqL.of (s' _ _ hli)), rfl, flat_nats gs, _, rfl, ?_⟩
      have ec : (if (false : Bool) = true then !inV (V.int (g : Int)) (natsV gs) else inV (V.int (g : Int)) (natsV gs)) = (Kp187.insideOf a j).contains g := by
        rw [if_neg (by simp), inV_nats, insideOf_some hx, Bool.eq_iff_iff, List.contains_iff_mem, List.contains_iff_mem]
        exact hgs.mem_iff
      rw [ec]
      have more := take_filter (fun j => (Kp187.insideOf a j).contains g) hj
      cases c : (Kp187.insideOf a j).contains g with
      | true =>
        refine iteT ⟨_, rfl, _, hD', ?_, same_upd s' hD, ?_⟩
        · rw [pick_len]
          have l1 := List.length_filter_le (fun j => (Kp187.insideOf a j).contains g) ((thereJ a).take i)
          have l2 := List.length_take_le i (thereJ a)
          rw [List.length_take] at l1
          have l3 := thereJ_le a
          have l4 := D.sz
          exact Nat.lt_of_le_of_lt (m := 128) (by omega) (by decide)
        · rw [c, if_pos rfl] at more
          rw [upd_same, more, pick_app]
          show _ = some (HO.lst (_ ++ [V.ref (as.getD j 0)]))
          rw [getD_of e1]
      | false =>
        refine iteF ⟨s', ?_⟩
        rw [c, if_neg (by simp), List.append_nil] at more
        rw [more]
        exact hD'
    · rintro H' ⟨s', hD'⟩
      rw [pick_len, List.take_length] at hD'
      exact k H' D0 (s1.trans s') (s1.free hD) hD'
/-- given_there -/
def spGivenThere (CD CI : Addr) : Sp := fun vs H Q _ => ∃ (d : Addr) (a : Kp187.Abs) (F : Addr → Prop), vs = [.ref d] ∧ Desk CD CI H d a F ∧ ∀ (H' : Hp) (q : Addr), Same H H' → H q = none → H' q = some (.lst (natsV (givJ a))) → Q (.ref q) H'
theorem scGT : FnScope ["self", "number"] ["self"] (defScope sGivenThere) := ⟨rfl, rfl, rfl, by decide +kernel, rfl, by decide +kernel, by decide +kernel⟩
theorem per_given (x : Kp187.Item) : (!decide (perV x.kind = .non)) = (match x.kind with | .given p _ => some p | .made _ _ => none : Option Nat).isSome := by
  cases x.kind <;> rfl
theorem ok_givenThere {f fT fG : Addr} {fd fdT fdG : FuncData} (F : Fun K "given_there" "Desk.given_there" sGivenThere f fd) (T : Txt K mg CI CD) (GT : FnOk P w K mg base CX0 2 fT fdT ["self", "number"] (spIsThere CD CI)) (bT : Binds K fdT ["self", "number"] []) (mT : Meth K CD "is_there" fT)
    (GG : FnOk P w K mg base CX0 1 fG fdG ["self"] (spIsGiven CI)) (bG : Binds K fdG ["self"] []) (mG : Meth K CI "is_given" fG) : FnOk P w K mg base CX0 3 f fd ["self"] (spGivenThere CD CI) := by
  refine F.ok scGT (fun vs H Q E h => ?_) (fun cdv A outer s H vs Q E hr h => ?_)
  · obtain ⟨d, a, F, rfl, _⟩ := h
    rfl
  · obtain ⟨d, a, F, rfl, ⟨l, as, ls, D, hF⟩, k⟩ := h
    have hr1 : Room 1 _ := hr.mono (by decide)
    refine ⟨_, pss_one (ps_ret (pe_lc (own := [("number", 1)]) (g := gName 1) (tt := tAnd (tB (tMeth CD "is_there" (spIsThere CD CI) [] E0 (tVar 0) (tCons (tVar 1) tNil))) (tB (tMeth CI "is_given" (spIsGiven CI) [] E0 (tOp (rIxL K) (tFld K (tVar 0) "kept") (tVar 1)) tNil))) (te := tVar 1) rfl scGT.nd
      (pi_range1 rfl T.bRange (pa_cons (pe_callB call_len_seq (by rfl) T.bLen PySem.boot_len (pa_cons (pe_fld (pv 0) rfl) pa_nil)) pa_nil)) (blkOk_by (N := ["self", "number"]) (sc := defScope sGivenThere) (by decide +kernel))
      (fun _ _ _ _ _ => pg_name (i := 1) scGT.nd rfl (Or.inl rfl))
      (fun _ _ _ _ _ => pts_one (PW.pt (pw_and (pt_val (pe_meth (pv 0) T.clD mT GT hr bT .nil pass0 (pa_cons (pv 1) pa_nil))) (pw_and1 (pt_val (pe_meth0 (pe_ix ix_list (pe_fld (pv 0) rfl) (pv 1) (fun _ _ => rfl)) T.clI mG GG hr1 bG .nil pass0))))))
      (fun _ _ _ _ _ => pv 1))), ?_⟩
    obtain ⟨dx, hd⟩ := D.obj
    have DD : Desk CD CI H d a F := ⟨l, as, ls, D, hF⟩
    have eln : (((as.map V.ref).length : Nat) : Int) = (a.items.length : Int) := by rw [List.length_map, D.len]
    refine ⟨_, rfl, d, CD, dx, _, _, rfl, hd, T.clD, T.nKept, dF_kept, l, _, rfl, .inl (SqL.of D.kept), (((as.map V.ref).length : Nat) : Int), rfl, ?_, ?_, fun D0 hD => ?_⟩
    · have := D.sz
      rw [eln]
      omega
    · have := D.sz
      rw [eln]
      omega
    have en : (((as.map V.ref).length : Nat) : Int).toNat = a.items.length := by rw [Int.toNat_natCast, List.length_map, D.len]
    rw [en]
    refine lc_range (lo := 0) (n := a.items.length) (fun i H' => Same H H' ∧ H' D0 = some (.lst (natsV ((List.range i).filter fun j => Kp187.there a j && (Kp187.personOf a j).isSome)))) ⟨Same.new hD, upd_same⟩ ?_ ?_
    · rintro i H' hi ⟨s', hD'⟩
      have hx := List.getElem?_eq_getElem hi
      obtain ⟨p, li, dp, e1, e2, e3, hp, I⟩ := D.get hx
      have ei : (0 : Int) + (i : Int) = (i : Int) := by omega
      rw [ei]
      have more := range_more i (fun j => Kp187.there a j && (Kp187.personOf a j).isSome)
      have fin : ∀ {H2 : Hp}, Same H H2 → H2 D0 = some (.lst (natsV ((List.range i).filter fun j => Kp187.there a j && (Kp187.personOf a j).isSome))) → ∀ c : Bool, (Kp187.there a i && (Kp187.personOf a i).isSome) = c → if c = true then tVar 1 [some (V.ref d), some (V.int (i : Int))] H2 fun y H4 => ∃ acc, H4 D0 = some (.lst acc) ∧ acc.length < sizeLine ∧ Same H (upd H4 D0 (.lst (acc ++ [y]))) ∧ upd H4 D0 (.lst (acc ++ [y])) D0 = some (.lst (natsV ((List.range (i + 1)).filter fun j => Kp187.there a j && (Kp187.personOf a j).isSome)))
          else Same H H2 ∧ H2 D0 = some (.lst (natsV ((List.range (i + 1)).filter fun j => Kp187.there a j && (Kp187.personOf a j).isSome))) := fun {H2} s2 h2 c ec => by
        rw [ec] at more
        cases c with
        | true =>
          refine iteT ⟨_, rfl, _, h2, ?_, same_upd s2 hD, ?_⟩
          · rw [natsV_len]
            have l4 := D.sz
            exact Nat.lt_of_le_of_lt (Nat.le_trans (filter_len i _) (Nat.le_trans (Nat.le_of_lt hi) D.sz)) (by decide)
          · rw [if_pos rfl] at more
            rw [upd_same, more, natsV_app]
            rfl
        | false =>
          refine iteF ⟨s2, ?_⟩
          rw [if_neg (by simp), List.append_nil] at more
          rw [more]
          exact h2
      refine ⟨rfl, _, rfl, d, dx, _, rfl, s' _ _ hd, dF_no (by decide +kernel) (by decide +kernel) (by decide +kernel), _, rfl, d, a, F, i, rfl, DD.same s', _, rfl, ?_⟩
      cases c1 : Kp187.there a i with
      | false =>
        refine iteF (fin s' hD' false ?_)
        rw [c1]
        rfl
      | true =>
        refine iteT ⟨_, rfl, d, CD, dx, _, _, rfl, s' _ _ hd, T.clD, T.nKept, dF_kept, _, rfl, l, _, _, _, rfl, rfl, SqL.of (s' _ _ D.kept), atI_nat e2, p, dp, _, rfl, s' _ _ hp, iF_not (by decide +kernel), p, dp, perV a.items[i].kind, _, _, li, _, _, _, rfl, s' _ _ hp, _, rfl, ?_⟩
        refine fin s' hD' _ ?_
        rw [c1, per_given]
        unfold Kp187.personOf Kp187.item
        rw [hx]
        rfl
    · rintro H' ⟨s', hD'⟩
      exact k H' D0 s' hD hD'
end
end Er
set_option Elab.async false
set_option maxRecDepth 100000
set_option maxHeartbeats 4000000
set_option linter.unusedVariables false
set_option autoImplicit false
namespace Er
open PySem PySem.Spec PyProof.Rows L2
theorem nodup_take {l : List Nat} {i j : Nat} (h : l.Nodup) (e : l[i]? = some j) : j ∉ l.take i := fun z => by
  obtain ⟨k, hk⟩ := List.mem_iff_getElem?.mp z
  have hk2 : k < i := by
    have := (List.getElem?_eq_some_iff.mp hk).1
    rw [List.length_take] at this
    omega
  rw [List.getElem?_take_of_lt hk2] at hk
  obtain ⟨h1, e1⟩ := List.getElem?_eq_some_iff.mp e
  obtain ⟨h2, e2⟩ := List.getElem?_eq_some_iff.mp hk
  have : i = k := (List.getElem_inj h).mp (e1.trans e2.symm)
  omega
theorem modAll_take {f : Kp187.Item → Kp187.Item} {a : Kp187.Abs} {js : List Nat} {i j : Nat} (h : js[i]? = some j) : modAll f a (js.take (i + 1)) = modI (modAll f a (js.take i)) j f := by
  unfold modAll
  rw [take_more h, List.foldl_append]
  rfl
theorem modAll_same {f : Kp187.Item → Kp187.Item} {a : Kp187.Abs} {js : List Nat} {i j : Nat} (nd : js.Nodup) (h : js[i]? = some j) : (modAll f a (js.take i)).items[j]? = a.items[j]? := by
  rw [modAll_at f _ a (nd.sublist (List.take_sublist ..)) j]
  cases a.items[j]? with
  | none => rfl
  | some x =>
    show some (if j ∈ js.take i then f x else x) = some x
    rw [if_neg (nodup_take nd h)]
/-- nothing but items is changed -/
def Rest (as : List Addr) (H H' : Hp) : Prop := ∀ b o, H b = some o → b ∉ as → H' b = some o
theorem Rest.of {as : List Addr} {H H' : Hp} (s : Same H H') : Rest as H H' := fun b o e _ => s b o e
theorem Rest.trans {as : List Addr} {H H1 H2 : Hp} (r1 : Rest as H H1) (r2 : Rest as H1 H2) : Rest as H H2 := fun b o e n => r2 b o (r1 b o e n) n
section
variable {P : Program} {w : World} {K : PySem.W.Frag} {mg : Str → Option Value} {base : Heap} {CI CD : Addr}
theorem DeskAt.mod {H H' : Hp} {d l : Addr} {a : Kp187.Abs} {as ls : List Addr} (D : DeskAt CD CI H d a l as ls) {j : Nat} {x : Kp187.Item} {p li : Addr} (hx : a.items[j]? = some x) (hp : as[j]? = some p) (hli : li ∈ ls) (I : ItemAt CI H p li x) (f : Kp187.Item → Kp187.Item) (hin : (f x).inside = x.inside)
    (hnz : ∀ g, (f x).gone = some g → g.why ≠ 0) (hp' : ∃ dx, H' p = some (.ins CI dx (itV (f x) li))) (kp : ∀ b o, H b = some o → b ≠ p → H' b = some o) : DeskAt CD CI H' d (modI a j f) l as ls := by
  have pin : p ∈ as := List.mem_of_getElem? hp
  obtain ⟨dxp, hpI⟩ := I.ins
  obtain ⟨dx, ho⟩ := D.obj
  have lens : (modI a j f).items.length = a.items.length := by
    show (a.items.modify j f).length = _
    rw [List.length_modify]
  refine ⟨⟨dx, kp _ _ ho fun e => D.nd2 (e ▸ pin)⟩, kp _ _ D.kept (ne_of D.kept hpI (by intro z; cases z)), D.nd, by rw [lens]; exact D.len, by rw [lens]; exact D.sz, D.nl, D.nd2, fun i y hy => ?_⟩
  rw [modI_at] at hy
  cases e : a.items[i]? with
  | none => rw [e] at hy; cases hy
  | some z =>
    rw [e] at hy
    have hy' : (if i = j then f z else z) = y := Option.some.inj hy
    by_cases c : i = j
    · subst c
      rw [if_pos rfl] at hy'
      have : z = x := Option.some.inj (e.symm.trans hx)
      subst this
      subst hy'
      obtain ⟨gs, hl1, hl2⟩ := I.lst
      exact ⟨p, li, hp, hli, hp', ⟨gs, kp _ _ hl1 (ne_of hl1 hpI (by intro z; cases z)), by rw [hin]; exact hl2⟩, hnz⟩
    · rw [if_neg c] at hy'
      subst hy'
      obtain ⟨p2, li2, e1, e2, ⟨⟨dx2, h1⟩, ⟨gs, h2, h3⟩, h4⟩⟩ := D.it i z e
      have np : p2 ≠ p := fun q => by
        subst q
        obtain ⟨k1, q1⟩ := List.getElem?_eq_some_iff.mp e1
        obtain ⟨k2, q2⟩ := List.getElem?_eq_some_iff.mp hp
        exact c ((List.getElem_inj D.nd).mp (q1.trans q2.symm))
      exact ⟨p2, li2, e1, e2, ⟨dx2, kp _ _ h1 np⟩, ⟨gs, kp _ _ h2 (ne_of h2 hpI (by intro z; cases z)), h3⟩, h4⟩
/-- erase_all_with -/
def spEraseAll (CD CI : Addr) : Sp := fun vs H Q _ => ∃ (d : Addr) (a : Kp187.Abs) (l : Addr) (as ls : List Addr) (g why day : Nat), vs = [.ref d, .int (g : Int), .int (why : Int), .int (day : Int)] ∧ DeskAt CD CI H d a l as ls ∧ why ≠ 0 ∧
  ∀ H' : Hp, DeskAt CD CI H' d (eraseG a why g day) l as ls → Rest as H H' → Q .non H'
theorem scEA : FnScope ["self", "given", "why", "day", "item"] ["self", "given", "why", "day"] (defScope sEraseAllWith) := ⟨rfl, rfl, rfl, by decide +kernel, rfl, by decide +kernel, by decide +kernel⟩
theorem ok_eraseAll {f fW fE : Addr} {fd fdW fdE : FuncData} (F : Fun K "erase_all_with" "Desk.erase_all_with" sEraseAllWith f fd) (T : Txt K mg CI CD) (GW : FnOk P w K mg base CX0 3 fW fdW ["self", "given"] (spAllWith CD CI)) (bW : Binds K fdW ["self", "given"] []) (mW : Meth K CD "all_with" fW)
    (GE : FnOk P w K mg base CX0 1 fE fdE ["self", "why", "by", "day"] (spErase CI)) (bE : Binds K fdE ["self", "why", "by", "day"] []) (mE : Meth K CI "erase" fE) : FnOk P w K mg base CX0 4 f fd ["self", "given", "why", "day"] (spEraseAll CD CI) := by
  refine F.ok scEA (fun vs H Q E h => ?_) (fun cdv A outer s H vs Q E hr h => ?_)
  · obtain ⟨d, a, l, as, ls, g, why, day, rfl, _⟩ := h
    rfl
  · obtain ⟨d, a, l, as, ls, g, why, day, rfl, D, hw, k⟩ := h
    have hr1 : Room 1 _ := hr.mono (by decide)
    refine ⟨_, pss_one (ps_for PassesOwn.never rfl (pi_list (pe_meth (pv 0) T.clD mW GW hr bW .nil pass0 (pa_cons (pv 1) pa_nil))) (pg_name (i := 4) scEA.nd rfl (Or.inl rfl))
      (pss_one (ps_expr (pe_meth (pv 4) T.clI mE GE hr1 bE .nil pass0 (pa_cons (pv 2) (pa_cons (pv 1) (pa_cons (pv 3) pa_nil))))))), ?_⟩
    obtain ⟨dx, hd⟩ := D.obj
    refine ⟨_, rfl, d, dx, _, rfl, hd, dF_no (by decide +kernel) (by decide +kernel) (by decide +kernel), _, rfl, d, a, l, as, ls, g, rfl, D, fun H1 q s1 nq hq => ?_⟩
    have nqa : q ∉ as := fun z => by
      obtain ⟨o, ho⟩ := D.as_some z
      rw [nq] at ho
      cases ho
    have nd := rise_nodup (withJ_rise a g)
    refine ⟨q, rfl, ⟨_, SqL.of hq⟩, for_list (K := K) (a := q) (xs := pick as (withJ a g)) (fun i σ H' => ∃ v4, σ = [some (.ref d), some (.int (g : Int)), some (.int (why : Int)), some (.int (day : Int)), v4] ∧ DeskAt CD CI H' d (modAll (er2 why g day) a ((withJ a g).take i)) l as ls ∧ Rest as H1 H')
      ⟨none, rfl, D.same s1, Rest.of (Same.refl _)⟩ (fun i σ H' _ ⟨_, _, _, r⟩ => SqL.of (r _ _ hq nqa)) ?_ ?_⟩
    · rintro i y σ H' hi ⟨v4, rfl, D', r'⟩
      obtain ⟨j, hj, rfl⟩ := pick_at hi
      obtain ⟨x, hx, hx2, hx3⟩ := mem_withJ.mp (List.mem_of_getElem? hj)
      have hx' : (modAll (er2 why g day) a ((withJ a g).take i)).items[j]? = some x := by rw [modAll_same nd hj]; exact hx
      obtain ⟨p, li, dp, e1, e2, e3, hp, I⟩ := D'.get hx'
      rw [getD_of e1]
      refine ⟨_, rfl, p, dp, _, rfl, hp, iF_not (by decide +kernel), _, rfl, _, rfl, _, rfl, p, dp, _, _, _, li, _, _, _, _, _, _, rfl, hp, fun H2 h2 kp => ?_⟩
      refine ⟨some (.ref p), rfl, ?_, r'.trans fun b o e n => kp b o e fun z => n (z ▸ List.mem_of_getElem? e1)⟩
      rw [modAll_take hj]
      exact D'.mod hx' e1 e3 I (er2 why g day) rfl (fun g' e => by cases e; exact hw) ⟨dp, h2⟩ kp
    · rintro σ H' ⟨v4, rfl, D', r'⟩
      rw [pick_len, List.take_length, ← eraseG_eq] at D'
      exact k H' D' (fun b o e n => r' b o (s1 b o e) n)
/-! ### er_back -/
theorem act_back (a : Kp187.Abs) (i m : Nat) : Kp187.act a (.back i m) = if Kp187.there a i = false then (a, .num (-2)) else if (Kp187.personOf a i).isNone ∨ Kp187.isSet m = false then (a, .num (-22)) else
      (Kp187.takeBack a i m, .num ((Kp187.thereCount a - Kp187.thereCount (Kp187.takeBack a i m) : Nat) : Int)) := rfl
def spErBack (CD CI : Addr) : Sp := fun vs H Q _ => ∃ (d : Addr) (a : Kp187.Abs) (F : Addr → Prop) (i m : Nat), vs = [.ref d, .int (i : Int), .int (m : Int)] ∧ Desk CD CI H d a F ∧ Good a ∧ After CD CI H d a F (.back i m) Q
theorem scBa : FnScope ["self", "number", "purposes", "before", "item"] ["self", "number", "purposes"] (defScope sErBack) := ⟨rfl, rfl, rfl, by decide +kernel, rfl, by decide +kernel, by decide +kernel⟩
/-- what a call leaves that changed items alone -/
theorem After.items {H H' : Hp} {d l : Addr} {a b : Kp187.Abs} {as ls : List Addr} {F : Addr → Prop} {c : Kp187.Call} {Q : VK} {v : Int} (k : After CD CI H d a F c Q) (hF : F d ∧ F l ∧ (∀ b ∈ as, F b) ∧ ∀ b ∈ ls, F b) (e : Kp187.act a c = (b, .num v)) (D : DeskAt CD CI H' d b l as ls) (r : Rest as H H') : Q (.int v) H' := by
  refine k v H' (by rw [e]) ?_ fun b' o e' n => r b' o e' fun z => n (hF.2.2.1 b' z)
  rw [e]
  exact ⟨l, as, ls, D, .inl hF.1, .inl hF.2.1, fun b' z => .inl (hF.2.2.1 b' z), fun b' z => .inl (hF.2.2.2 b' z)⟩
theorem sub_nat {m n : Nat} (h : n ≤ m) : (m : Int) - (n : Int) = ((m - n : Nat) : Int) := by omega
theorem ok_erBack {f fT fG fP fA fW fL fE : Addr} {fd fdT fdG fdP fdA fdW fdL fdE : FuncData} (F : Fun K "er_back" "Desk.er_back" sErBack f fd) (T : Txt K mg CI CD)
    (GT : FnOk P w K mg base CX0 2 fT fdT ["self", "number"] (spIsThere CD CI)) (bT : Binds K fdT ["self", "number"] []) (mT : Meth K CD "is_there" fT)
    (GG : FnOk P w K mg base CX0 1 fG fdG ["self"] (spIsGiven CI)) (bG : Binds K fdG ["self"] []) (mG : Meth K CI "is_given" fG)
    (GP : FnOk P w K mg base CX0 1 fP fdP ["purposes"] spArePurposes) (bP : Binds K fdP ["purposes"] []) (gP : mg "are_purposes" = some (.ref fP)) (kP : PySem.W.keepIn K (.ref fP) = true)
    (GA : FnOk P w K mg base CX0 2 fA fdA ["self"] (spAllThere CD CI)) (bA : Binds K fdA ["self"] []) (mA : Meth K CD "all_there" fA)
    (GW : FnOk P w K mg base CX0 3 fW fdW ["self", "given"] (spAllWith CD CI)) (bW : Binds K fdW ["self", "given"] []) (mW : Meth K CD "all_with" fW)
    (GL : FnOk P w K mg base CX0 1 fL fdL ["self", "purposes"] (spLose CI)) (bL : Binds K fdL ["self", "purposes"] []) (mL : Meth K CI "lose" fL)
    (GE : FnOk P w K mg base CX0 1 fE fdE ["self", "why", "by", "day"] (spErase CI)) (bE : Binds K fdE ["self", "why", "by", "day"] []) (mE : Meth K CI "erase" fE) :
    FnOk P w K mg base CX0 4 f fd ["self", "number", "purposes"] (spErBack CD CI) := by
  refine F.ok scBa (fun vs H Q E h => ?_) (fun cdv A outer s H vs Q E hr h => ?_)
  · obtain ⟨d, a, F, i, m, rfl, _⟩ := h
    rfl
  · obtain ⟨d, a, F, n, m, rfl, ⟨l, as, ls, D, hF⟩, G, k⟩ := h
    have hr1 : Room 1 _ := hr.mono (by decide)
    have hr2 : Room 2 _ := hr.mono (by decide)
    refine ⟨_, pss_cons (ps_if (pt_not (pt_val (pe_meth (pv 0) T.clD mT GT hr2 bT .nil pass0 (pa_cons (pv 1) pa_nil)))) (pss_one (ps_ret (pe_un un_neg (pe_gi T.kABSENT)))) pss_nil)
      (pss_cons (ps_if (PW.pt (pw_or (pt_not (pt_val (pe_meth0 (pe_ix ix_list (pe_fld (pv 0) rfl) (pv 1) (fun _ _ => rfl)) T.clI mG GG hr1 bG .nil pass0))) (pw_or1 (pt_not (pt_val (pe_call GP hr1 rfl gP kP bP .nil pass0 (pa_cons (pv 2) pa_nil))))))) (pss_one (ps_ret (pe_un un_neg (pe_gi T.kWRONG)))) pss_nil)
      (pss_cons (ps_set (i := 3) scBa.nd rfl (Or.inl rfl) (pe_callB call_len_seq (by rfl) T.bLen PySem.boot_len (pa_cons (pe_meth0 (pv 0) T.clD mA GA hr2 bA .nil pass0) pa_nil)))
      (pss_cons (ps_for PassesOwn.never rfl (pi_list (pe_meth (pv 0) T.clD mW GW hr bW .nil pass0 (pa_cons (pv 1) pa_nil))) (pg_name (i := 4) scBa.nd rfl (Or.inl rfl))
        (pss_cons (ps_expr (pe_meth (pv 4) T.clI mL GL hr1 bL .nil pass0 (pa_cons (pv 2) pa_nil)))
        (pss_one (ps_if (pt_cmpR op_eq (pe_fld (pv 4) rfl) pe_int (nomark _)) (pss_one (ps_expr (pe_meth (pv 4) T.clI mE GE hr1 bE .nil pass0 (pa_cons (pe_gi T.kNOP) (pa_cons (pv 1) (pa_cons (pe_fld (pv 0) rfl) pa_nil)))))) pss_nil))))
      (pss_one (ps_ret (pe_op op_sub (pv 3) (pe_callB call_len_seq (by rfl) T.bLen PySem.boot_len (pa_cons (pe_meth0 (pv 0) T.clD mA GA hr2 bA .nil pass0) pa_nil)))))))), ?_⟩
    have DD : Desk CD CI H d a F := ⟨l, as, ls, D, hF⟩
    obtain ⟨dx, hd⟩ := D.obj
    refine ⟨_, rfl, d, dx, _, rfl, hd, dF_no (by decide +kernel) (by decide +kernel) (by decide +kernel), _, rfl, d, a, F, n, rfl, DD, _, rfl, ?_⟩
    cases ht : Kp187.there a n with
    | false =>
      refine iteT ⟨_, rfl, k.still DD ?_⟩
      rw [act_back, if_pos ht]
    | true =>
    refine iteF ?_
    obtain ⟨x, hx, hl⟩ := there_some ht
    obtain ⟨p, li, dp, e1, e2, e3, hp, I⟩ := D.get hx
    have nt : ¬ Kp187.there a n = false := by rw [ht]; simp
    refine ⟨_, rfl, d, CD, dx, _, _, rfl, hd, T.clD, T.nKept, dF_kept, _, rfl, l, _, _, _, rfl, rfl, SqL.of D.kept, atI_nat e2, p, dp, _, rfl, hp, iF_not (by decide +kernel), p, dp, perV x.kind, _, _, li, _, _, _, rfl, hp, _, rfl, ?_⟩
    have epo : (!decide (perV x.kind = .non)) = (Kp187.personOf a n).isSome := by
      rw [per_given]
      unfold Kp187.personOf Kp187.item
      rw [hx]
      rfl
    rw [epo]
    cases hpo : (Kp187.personOf a n).isSome with
    | false =>
      refine iteT ⟨_, rfl, k.still DD ?_⟩
      have hn : (Kp187.personOf a n).isNone = true := by
        rw [← Option.not_isSome, hpo]
        rfl
      rw [act_back, if_neg nt, if_pos (.inl hn)]
    | true =>
    refine iteF ⟨_, rfl, _, rfl, _, rfl, ?_⟩
    rw [isSet_eq]
    cases hm : Kp187.isSet m with
    | false =>
      refine iteT ⟨_, rfl, k.still DD ?_⟩
      rw [act_back, if_neg nt, if_pos (.inr hm)]
    | true =>
    refine iteF ?_
    have ok : ¬ ((Kp187.personOf a n).isNone ∨ Kp187.isSet m = false) := by
      rw [← Option.not_isSome, hpo, hm]
      simp
    have ea : Kp187.act a (.back n m) = (Kp187.takeBack a n m, .num ((Kp187.thereCount a - Kp187.thereCount (Kp187.takeBack a n m) : Nat) : Int)) := by rw [act_back, if_neg nt, if_neg ok]
    refine ⟨_, rfl, d, dx, _, rfl, hd, dF_no (by decide +kernel) (by decide +kernel) (by decide +kernel), d, a, l, as, ls, rfl, D, fun H1 q1 s1 nq1 hq1 => ?_⟩
    refine ⟨q1, _, rfl, .inl (SqL.of hq1), ?_⟩
    have D1 := D.same s1
    obtain ⟨dx1, hd1⟩ := D1.obj
    refine ⟨_, rfl, d, dx1, _, rfl, hd1, dF_no (by decide +kernel) (by decide +kernel) (by decide +kernel), _, rfl, d, a, l, as, ls, n, rfl, D1, fun H2 q s2 nq hq => ?_⟩
    have nqa : q ∉ as := fun z => by
      obtain ⟨o, ho⟩ := D1.as_some z
      rw [nq] at ho
      cases ho
    have nd := rise_nodup (withJ_rise a n)
    refine ⟨q, rfl, ⟨_, SqL.of hq⟩, for_list (K := K) (a := q) (xs := pick as (withJ a n)) (fun i σ H' => ∃ v4, σ = [some (.ref d), some (.int (n : Int)), some (.int (m : Int)), some (.int (((pick as (thereJ a)).length : Nat) : Int)), v4] ∧ DeskAt CD CI H' d (modAll (bk1 n m a.today) a ((withJ a n).take i)) l as ls ∧ Rest as H2 H')
      ⟨none, rfl, D1.same s2, Rest.of (Same.refl _)⟩ (fun i σ H' _ ⟨_, _, _, r⟩ => SqL.of (r _ _ hq nqa)) ?_ ?_⟩
    · rintro i y σ H' hi ⟨v4, rfl, D', r'⟩
      obtain ⟨j, hj, rfl⟩ := pick_at hi
      obtain ⟨x, hx, hx2, hx3⟩ := mem_withJ.mp (List.mem_of_getElem? hj)
      have hx' : (modAll (bk1 n m a.today) a ((withJ a n).take i)).items[j]? = some x := by rw [modAll_same nd hj]; exact hx
      obtain ⟨p, li, dp, e1, e2, e3, hp, I⟩ := D'.get hx'
      obtain ⟨dx', hd'⟩ := D'.obj
      have pin : p ∈ as := List.mem_of_getElem? e1
      have tdy : (modAll (bk1 n m a.today) a ((withJ a n).take i)).today = a.today := (modAll_rest _ _ _).2.1
      rw [tdy] at hd'
      rw [getD_of e1]
      have nzl : ∀ g', (bk1 n m a.today x).gone = some g' → g'.why ≠ 0 := fun g' e => by
        have e' : (if Kp187.without x.purposes m = 0 then some (⟨1, n, a.today⟩ : Kp187.Gone) else none) = some g' := e
        split at e'
        · cases e'
          exact Nat.one_ne_zero
        · cases e'
      refine ⟨_, rfl, p, dp, _, rfl, hp, iF_not (by decide +kernel), _, rfl, p, dp, _, x.purposes, _, li, _, _, _, m, rfl, hp, (G.it j x hx).pur, fun H3 h3 kp3 => ?_⟩
      refine ⟨_, rfl, p, CI, dp, _, _, rfl, h3, T.clI, T.nPurposes, iF_purposes, rfl, _, rfl, ?_⟩
      rw [int_eq0]
      have hd3 := kp3 _ _ hd' fun z => D.nd2 (z ▸ pin)
      refine ite2 (fun c => ?_) (fun c => ?_)
      · rw [decide_eq_true_eq] at c
        refine ⟨_, rfl, p, dp, _, rfl, h3, iF_not (by decide +kernel), _, rfl, _, rfl, d, CD, dx', _, _, rfl, hd3, T.clD, T.nToday, dF_today, p, dp, _, _, _, li, _, _, _, _, _, _, rfl, h3, fun H4 h4 kp4 => ?_⟩
        have kp : ∀ b o, H' b = some o → b ≠ p → H4 b = some o := fun b o e hb => kp4 b o (kp3 b o e hb) hb
        refine ⟨some (.ref p), rfl, ?_, r'.trans fun b o e nb => kp b o e fun z => nb (z ▸ pin)⟩
        rw [modAll_take hj]
        refine D'.mod hx' e1 e3 I (bk1 n m a.today) rfl nzl ⟨dp, ?_⟩ kp
        rw [h4]
        unfold itV bk1
        dsimp only
        rw [if_pos c]
        rfl
      · rw [decide_eq_true_eq] at c
        refine ⟨some (.ref p), rfl, ?_, r'.trans fun b o e nb => kp3 b o e fun z => nb (z ▸ pin)⟩
        rw [modAll_take hj]
        refine D'.mod hx' e1 e3 I (bk1 n m a.today) rfl nzl ⟨dp, ?_⟩ kp3
        rw [h3]
        unfold itV bk1
        dsimp only
        rw [if_neg c, hx2]
    · rintro σ H3 ⟨v4, rfl, D3, r3⟩
      rw [pick_len, List.take_length, ← takeBack_eq] at D3
      obtain ⟨dx3, hd3⟩ := D3.obj
      refine ⟨_, rfl, _, rfl, d, dx3, _, rfl, hd3, dF_no (by decide +kernel) (by decide +kernel) (by decide +kernel), d, _, l, as, ls, rfl, D3, fun H4 q4 s4 nq4 hq4 => ?_⟩
      refine ⟨q4, _, rfl, .inl (SqL.of hq4), _, _, rfl, rfl, ?_⟩
      dsimp only
      rw [pick_len, pick_len, thereJ_len, thereJ_len, sub_nat (takeBack_le a n m)]
      exact k.items hF ea (D3.same s4) ((Rest.of (s1.trans s2)).trans (r3.trans (Rest.of s4)))
end
end Er
set_option Elab.async false
set_option maxRecDepth 100000
set_option maxHeartbeats 4000000
set_option linter.unusedVariables false
set_option autoImplicit false
namespace Er
open PySem PySem.Spec PyProof.Rows L2
open LamX (CodeO TabS TabB ExtN codeO_ne)
/-! ### erasing by several -/
theorem eraseL_add (why : Nat) (day : Nat → Nat) (a : Kp187.Abs) (l : List Nat) (g : Nat) : eraseL why day a (l ++ [g]) = eraseG (eraseL why day a l) why g (day g) := by
  unfold eraseL
  rw [List.foldl_append]
  rfl
theorem eG_kind (why g d : Nat) (x : Kp187.Item) : (eG why g d x).kind = x.kind := by
  unfold eG
  split <;> rfl
theorem fold_kind (why : Nat) (day : Nat → Nat) : ∀ (l : List Nat) (x : Kp187.Item), (l.foldl (fun y g => eG why g (day g) y) x).kind = x.kind
  | [], x => rfl
  | g :: l, x => by
    show (l.foldl (fun y g => eG why g (day g) y) (eG why g (day g) x)).kind = x.kind
    rw [fold_kind why day l, eG_kind]
theorem eraseL_at (why : Nat) (day : Nat → Nat) (a : Kp187.Abs) (l : List Nat) {j : Nat} {x : Kp187.Item} (h : a.items[j]? = some x) : ∃ y, (eraseL why day a l).items[j]? = some y ∧ y.kind = x.kind := by
  rw [eraseL_is]
  refine ⟨_, ?_, fold_kind why day l x⟩
  show (a.items.map _)[j]? = _
  rw [List.getElem?_map, h]
  rfl
theorem eraseL_today (why : Nat) (day : Nat → Nat) (a : Kp187.Abs) (l : List Nat) : (eraseL why day a l).today = a.today := by
  rw [eraseL_is]
section
variable {P : Program} {w : World} {K : PySem.W.Frag} {mg : Str → Option Value} {base : Heap} {CI CD : Addr}
/-! ### er_person -/
theorem act_person (a : Kp187.Abs) (p : Nat) : Kp187.act a (.person p) = if 64 ≤ p then (a, .num (-22)) else
      (Kp187.erase a 2 (Kp187.givenBy a p), .num ((Kp187.thereCount a - Kp187.thereCount (Kp187.erase a 2 (Kp187.givenBy a p)) : Nat) : Int)) := rfl
def spErPerson (CD CI : Addr) : Sp := fun vs H Q _ => ∃ (d : Addr) (a : Kp187.Abs) (F : Addr → Prop) (p : Nat), vs = [.ref d, .int (p : Int)] ∧ Desk CD CI H d a F ∧ Good a ∧ After CD CI H d a F (.person p) Q
theorem scPe : FnScope ["self", "person", "before", "number"] ["self", "person"] (defScope sErPerson) := ⟨rfl, rfl, rfl, by decide +kernel, rfl, by decide +kernel, by decide +kernel⟩
theorem ok_erPerson {f fA fG fX : Addr} {fd fdA fdG fdX : FuncData} (F : Fun K "er_person" "Desk.er_person" sErPerson f fd) (T : Txt K mg CI CD)
    (GA : FnOk P w K mg base CX0 2 fA fdA ["self"] (spAllThere CD CI)) (bA : Binds K fdA ["self"] []) (mA : Meth K CD "all_there" fA)
    (GG : FnOk P w K mg base CX0 3 fG fdG ["self"] (spGivenThere CD CI)) (bG : Binds K fdG ["self"] []) (mG : Meth K CD "given_there" fG)
    (GX : FnOk P w K mg base CX0 4 fX fdX ["self", "given", "why", "day"] (spEraseAll CD CI)) (bX : Binds K fdX ["self", "given", "why", "day"] []) (mX : Meth K CD "erase_all_with" fX) :
    FnOk P w K mg base CX0 5 f fd ["self", "person"] (spErPerson CD CI) := by
  refine F.ok scPe (fun vs H Q E h => ?_) (fun cdv A outer s H vs Q E hr h => ?_)
  · obtain ⟨d, a, F, p, rfl, _⟩ := h
    rfl
  · obtain ⟨d, a, F, p, rfl, ⟨l, as, ls, D, hF⟩, G, k⟩ := h
    have hr2 : Room 2 _ := hr.mono (by decide)
    have hr3 : Room 3 _ := hr.mono (by decide)
    refine ⟨_, pss_cons (ps_if (pt_cmpR op_gt (pv 1) (pe_gi T.kPERSON) (nomark _)) (pss_one (ps_ret (pe_un un_neg (pe_gi T.kWRONG)))) pss_nil)
      (pss_cons (ps_set (i := 2) scPe.nd rfl (Or.inl rfl) (pe_callB call_len_seq (by rfl) T.bLen PySem.boot_len (pa_cons (pe_meth0 (pv 0) T.clD mA GA hr2 bA .nil pass0) pa_nil)))
      (pss_cons (ps_for PassesOwn.never rfl (pi_list (pe_meth0 (pv 0) T.clD mG GG hr3 bG .nil pass0)) (pg_name (i := 3) scPe.nd rfl (Or.inl rfl))
        (pss_one (ps_if (pt_cmpR op_eq (pe_fld (pe_ix ix_list (pe_fld (pv 0) rfl) (pv 3) (fun _ _ => rfl)) rfl) (pv 1) (nomark _))
          (pss_one (ps_expr (pe_meth (pv 0) T.clD mX GX hr bX .nil pass0 (pa_cons (pv 3) (pa_cons (pe_gi T.kTAKEN) (pa_cons (pe_fld (pv 0) rfl) pa_nil)))))) pss_nil)))
      (pss_one (ps_ret (pe_op op_sub (pv 2) (pe_callB call_len_seq (by rfl) T.bLen PySem.boot_len (pa_cons (pe_meth0 (pv 0) T.clD mA GA hr2 bA .nil pass0) pa_nil))))))), ?_⟩
    have DD : Desk CD CI H d a F := ⟨l, as, ls, D, hF⟩
    obtain ⟨dx, hd⟩ := D.obj
    refine ⟨_, rfl, _, _, rfl, rfl, _, rfl, ?_⟩
    refine ite2 (fun c => ⟨_, rfl, k.still DD ?_⟩) (fun c => ?_)
    · have := of_decide_eq_true c
      rw [act_person, if_pos (by omega)]
    rw [decide_eq_true_eq] at c
    have np : ¬ 64 ≤ p := by omega
    have lr : ((givJ a).filter fun g => Kp187.personOf a g == some p).Pairwise (· < ·) := (givJ_rise a).filter _
    have pe := person_eq G p lr fun g => by rw [List.mem_filter, beq_iff_eq]
    have ea := act_person a p
    rw [if_neg np, pe] at ea
    refine ⟨_, rfl, d, dx, _, rfl, hd, dF_no (by decide +kernel) (by decide +kernel) (by decide +kernel), d, a, l, as, ls, rfl, D, fun H1 q1 s1 nq1 hq1 => ?_⟩
    refine ⟨q1, _, rfl, .inl (SqL.of hq1), ?_⟩
    have D1 := D.same s1
    obtain ⟨dx1, hd1⟩ := D1.obj
    refine ⟨_, rfl, d, dx1, _, rfl, hd1, dF_no (by decide +kernel) (by decide +kernel) (by decide +kernel), d, a, F, rfl, ⟨l, as, ls, D1, hF⟩, fun H2 q s2 nq hq => ?_⟩
    have nqa : q ∉ as := fun z => by
      obtain ⟨o, ho⟩ := D1.as_some z
      rw [nq] at ho
      cases ho
    refine ⟨q, rfl, ⟨_, SqL.of hq⟩, for_list (K := K) (a := q) (xs := natsV (givJ a)) (fun i σ H' => ∃ v3, σ = [some (.ref d), some (.int (p : Int)), some (.int (((pick as (thereJ a)).length : Nat) : Int)), v3] ∧ DeskAt CD CI H' d (eraseL 2 (fun _ => a.today) a (((givJ a).take i).filter fun g => Kp187.personOf a g == some p)) l as ls ∧ Rest as H2 H')
      ⟨none, rfl, D1.same s2, Rest.of (Same.refl _)⟩ (fun i σ H' _ ⟨_, _, _, r⟩ => SqL.of (r _ _ hq nqa)) ?_ ?_⟩
    · rintro i y σ H' hi ⟨v3, rfl, D', r'⟩
      obtain ⟨g, hg, rfl⟩ := natsV_at hi
      obtain ⟨x, p', u, hx, _, hk⟩ := mem_givJ.mp (List.mem_of_getElem? hg)
      obtain ⟨y, hy, hky⟩ := eraseL_at 2 (fun _ => a.today) a (((givJ a).take i).filter fun g => Kp187.personOf a g == some p) hx
      obtain ⟨pa, li, dp, e1, e2, e3, hp, I⟩ := D'.get hy
      obtain ⟨dx', hd'⟩ := D'.obj
      rw [eraseL_today] at hd'
      have epv : perV y.kind = .int (p' : Int) := by rw [hky, hk]; rfl
      have hpo := personOf_given hx hk
      have more := take_filter (fun g => Kp187.personOf a g == some p) hg
      refine ⟨_, rfl, d, CD, dx', _, _, rfl, hd', T.clD, T.nKept, dF_kept, _, rfl, l, _, _, _, rfl, rfl, SqL.of D'.kept, atI_nat e2, pa, CI, dp, _, _, rfl, hp, T.clI, T.nPerson, iF_person.trans (congrArg some epv), _, rfl, rfl, _, rfl, ?_⟩
      refine ite2 (fun c2 => ?_) (fun c2 => ?_)
      · rw [decide_eq_true_eq] at c2
        have ep : p' = p := by
          have := V.int.inj c2
          omega
        rw [hpo, ep, if_pos (by simp)] at more
        refine ⟨_, rfl, d, dx', _, rfl, hd', dF_no (by decide +kernel) (by decide +kernel) (by decide +kernel), _, rfl, _, rfl, d, CD, dx', _, _, rfl, hd', T.clD, T.nToday, dF_today, d, _, l, as, ls, g, 2, a.today, rfl, D', by omega, fun H3 D3 r3 => ?_⟩
        refine ⟨some (.int (g : Int)), rfl, ?_, r'.trans r3⟩
        rw [more, eraseL_add]
        exact D3
      · rw [decide_eq_true_eq] at c2
        have ep : ¬ (Kp187.personOf a g == some p) = true := by
          rw [hpo, beq_iff_eq]
          intro z
          have := Option.some.inj z
          exact c2 (by rw [this])
        rw [if_neg ep, List.append_nil] at more
        refine ⟨some (.int (g : Int)), rfl, ?_, r'⟩
        rw [more]
        exact D'
    · rintro σ H3 ⟨v3, rfl, D3, r3⟩
      rw [natsV_len, List.take_length] at D3
      obtain ⟨dx3, hd3⟩ := D3.obj
      refine ⟨_, rfl, _, rfl, d, dx3, _, rfl, hd3, dF_no (by decide +kernel) (by decide +kernel) (by decide +kernel), d, _, l, as, ls, rfl, D3, fun H4 q4 s4 nq4 hq4 => ?_⟩
      refine ⟨q4, _, rfl, .inl (SqL.of hq4), _, _, rfl, rfl, ?_⟩
      dsimp only
      rw [pick_len, pick_len, thereJ_len, thereJ_len, sub_nat (eraseL_le _ _ _ _)]
      exact k.items hF ea (D3.same s4) ((Rest.of (s1.trans s2)).trans (r3.trans (Rest.of s4)))
/-! ### over_by_now -/
/-- a def whose code object is known -/
structure FunC (K : PySem.W.Frag) (x qual : Str) (st : Stmt) (f : Addr) (fd : FuncData) (c : Addr) : Prop where
  ex : ∃ (oc : Value) (od : Option Addr) (kV doc pm : Value) (an : Option Addr) (ct : Value) (osl : Array (Option Value)),
    fd = PySem.W.fnOf x qual (defArgs st) (defBody st) (defScope st) .none kV doc pm an (.ref c) ct ∧ K.lookup f = some ⟨oc, od, .func fd, osl⟩ ∧ PySem.W.codeIn K (.ref c) qual = true
  kp : PySem.W.keepIn K (.ref f) = true
theorem FunC.fn {x qual : Str} {st : Stmt} {f : Addr} {fd : FuncData} {c : Addr} (F : FunC K x qual st f fd c) : Fun K x qual st f fd := by
  obtain ⟨oc, od, kV, doc, pm, an, ct, osl, h1, h2, h3⟩ := F.ex
  exact ⟨⟨oc, od, kV, doc, pm, an, .ref c, ct, osl, h1, h2, h3⟩, F.kp⟩
theorem FunC.ok {x qual : Str} {st : Stmt} {f c : Addr} {fd : FuncData} {N ps : List Str} {k : Nat} {sp : Sp} (F : FunC K x qual st f fd c) (S : FnScope N ps (defScope st)) (len : ∀ vs H Q E, sp vs H Q E → vs.length = ps.length)
    (hbody : ∀ (A : Around) (outer : List Env) (s : Shared) (H : Hp) (vs : List V) (Q : VK) (E : XK), Room k (A.deeper (envOfC qual (defScope st) s.heap.objs.size f (.ref c))) → sp vs H Q E →
      ∃ t, PSs (cxOf CX0 P w K mg base N qual (defScope st) f (.ref c) A outer s H E).nox (defBody st) t ∧ t { nx := fun _ H' => Q .non H', rt := Q } (L2.start N vs) H) : FnOk P w K mg base CX0 (k + 1) f fd ps sp := by
  obtain ⟨oc, od, kV, doc, pm, an, ct, osl, rfl, lk, hcd⟩ := F.ex
  refine fn_of lk hcd S len fun A outer s H vs Q E hr h => ?_
  obtain ⟨t, ht, q⟩ := hbody A outer s H vs Q E hr h
  exact ⟨t, ht.nox, q⟩
def lamQ : Str := (("Desk.over_by_now" : Str) ++ ".<locals>.") ++ "<lambda>"
theorem insNT {C dx : Addr} {fs : List (Str × V)} (ps : Array Value) : HO.ins C dx fs ≠ .tbl ps := fun z => by cases z
theorem lstNT {xs : List V} (ps : Array Value) : HO.lst xs ≠ .tbl ps := fun z => by cases z
theorem DeskAt.extN {H H' : Hp} {d l : Addr} {a : Kp187.Abs} {as ls : List Addr} (D : DeskAt CD CI H d a l as ls) (e : ExtN H H') : DeskAt CD CI H' d a l as ls := by
  obtain ⟨⟨dx, h1⟩, h2, h3, h4, hz, h5, h6, h7⟩ := D
  refine ⟨⟨dx, e _ _ h1 insNT⟩, e _ _ h2 lstNT, h3, h4, hz, h5, h6, fun j x hx => ?_⟩
  obtain ⟨p, li, e1, e2, ⟨⟨dx2, i1⟩, ⟨gs, i2, i3⟩, i4⟩⟩ := h7 j x hx
  exact ⟨p, li, e1, e2, ⟨dx2, e _ _ i1 insNT⟩, ⟨gs, e _ _ i2 lstNT, i3⟩, i4⟩
def ovJ (a : Kp187.Abs) : List Nat := (givJ a).filter fun g => decide (untilOf a g < a.today)
def spOver (CD CI Pt : Addr) : Sp := fun vs H Q _ => ∃ (d : Addr) (a : Kp187.Abs) (l : Addr) (as ls : List Addr), vs = [.ref d] ∧ DeskAt CD CI H d a l as ls ∧ TabS H Pt lamQ ∧
  ∀ (H' : Hp) (q : Addr) (overs : List Nat), overs.Perm (ovJ a) → (overs.Pairwise fun g h => untilOf a g < untilOf a h ∨ (untilOf a g = untilOf a h ∧ g ≤ h)) → ExtN H H' → TabS H' Pt lamQ → H q = none → H' q = some (.lst (natsV overs)) → Q (.ref q) H'
theorem scOv : FnScope ["self", "over", "number"] ["self"] (defScope sOverByNow) := ⟨rfl, rfl, rfl, by decide +kernel, rfl, by decide +kernel, by decide +kernel⟩
theorem til_given {x : Kp187.Item} {p u : Nat} (h : x.kind = .given p u) : tilV x.kind = .int (u : Int) := by
  rw [h]
  rfl
theorem ok_over {f fG c Pt : Addr} {fd fdG : FuncData} (F : FunC K "over_by_now" "Desk.over_by_now" sOverByNow f fd c) (T : Txt K mg CI CD) (TB : TabB base mg c Pt)
    (GG : FnOk P w K mg base CX0 3 fG fdG ["self"] (spGivenThere CD CI)) (bG : Binds K fdG ["self"] []) (mG : Meth K CD "given_there" fG) : FnOk P w K mg base CX0 4 f fd ["self"] (spOver CD CI Pt) := by
  refine F.ok scOv (fun vs H Q E h => ?_) (fun A outer s H vs Q E hr h => ?_)
  · obtain ⟨d, a, l, as, ls, rfl, _⟩ := h
    rfl
  · obtain ⟨d, a, l, as, ls, rfl, D, hT, k⟩ := h
    refine ⟨_, pss_cons (ps_setLc (i := 1) (own := [("number", 2)]) (g := gName 2) (tt := tTest (tOp (rI0 fun i j => .bl (decide (i < j))) (tFld K (tOp (rIxL K) (tFld K (tVar 0) "kept") (tVar 2)) "until") (tFld K (tVar 0) "today"))) (te := tVar 2) (by rfl) scOv.nd rfl rfl (sw_true rfl rfl rfl (by decide +kernel))
        (pi_list (pe_meth0 (pv 0) T.clD mG GG hr bG .nil pass0)) (blkOk_by (own := [("number", 2)]) (N := ["self", "over", "number"]) (sc := defScope sOverByNow) (by decide +kernel))
        (fun _ _ _ _ _ => pg_name (i := 2) scOv.nd rfl (Or.inl rfl)) (fun _ _ _ _ _ => pts_one (pt_cmpR op_lt (pe_fld (pe_ix ix_list (pe_fld (pv 0) rfl) (pv 2) (fun _ _ => rfl)) rfl) (pe_fld (pv 0) rfl) (nomark _))) (fun _ _ _ _ _ => pv 2))
      (pss_one (ps_ret (pe_sortLam (i := 0) (k0 := 0) (a := "number") (y := "self") (tb := tTup (tCons (tFld K (tOp (rIxL K) (tFld K (tVar 1) "kept") (tVar 0)) "until") (tCons (tVar 0) tNil))) (by rfl) T.bSorted (by decide +kernel) (pa_cons (pv 1) pa_nil) TB rfl hr
        ⟨rfl, rfl, rfl, rfl, by decide +kernel, rfl⟩ rfl rfl (fun _ _ _ _ _ _ => rfl)
        (fun _ _ _ _ _ _ => pe_tup (pa_cons (pe_fld (pe_ix ix_list (pe_fld (pv 1) rfl) (pv 0) (fun _ _ => rfl)) rfl) (pa_cons (pv 0) pa_nil)))))), ?_⟩
    obtain ⟨dx, hd⟩ := D.obj
    refine ⟨_, rfl, d, dx, _, rfl, hd, dF_no (by decide +kernel) (by decide +kernel) (by decide +kernel), d, a, _, rfl, ⟨l, as, ls, D, trivial, trivial, fun _ _ => trivial, fun _ _ => trivial⟩, fun H1 q1 s1 nq1 hq1 => ?_⟩
    refine ⟨q1, rfl, ⟨_, SqL.of hq1⟩, fun D0 hD => ?_⟩
    refine lc_list (K := K) (a := q1) (xs := natsV (givJ a)) (fun i H' => Same H1 H' ∧ H' D0 = some (.lst (natsV (((givJ a).take i).filter fun g => decide (untilOf a g < a.today))))) ⟨Same.new hD, upd_same⟩ (fun i H' _ ⟨s', _⟩ => SqL.of (s' _ _ hq1)) ?_ ?_
    · rintro i y H' hi ⟨s', hD'⟩
      obtain ⟨g, hg, rfl⟩ := natsV_at hi
      obtain ⟨x, p', u, hx, _, hk⟩ := mem_givJ.mp (List.mem_of_getElem? hg)
      have D' := D.same (s1.trans s')
      obtain ⟨dx', hd'⟩ := D'.obj
      obtain ⟨pa, li, dp, e1, e2, e3, hp, I⟩ := D'.get hx
      refine ⟨rfl, _, rfl, d, CD, dx', _, _, rfl, hd', T.clD, T.nKept, dF_kept, _, rfl, l, _, _, _, rfl, rfl, SqL.of D'.kept, atI_nat e2, pa, CI, dp, _, _, rfl, hp, T.clI, T.nUntil, iF_until.trans (congrArg some (til_given hk)), _, rfl, d, CD, dx', _, _, rfl, hd', T.clD, T.nToday, dF_today, _, _, rfl, rfl, _, rfl, ?_⟩
      have ed : decide ((u : Int) < (a.today : Int)) = decide (untilOf a g < a.today) := by
        rw [untilOf_given hx hk, decide_eq_decide]
        omega
      rw [ed]
      have more := take_filter (fun g => decide (untilOf a g < a.today)) hg
      cases c : decide (untilOf a g < a.today) with
      | true =>
        refine iteT ⟨_, rfl, _, hD', ?_, same_upd s' hD, ?_⟩
        · rw [natsV_len]
          have l1 := List.length_filter_le (fun g => decide (untilOf a g < a.today)) ((givJ a).take i)
          rw [List.length_take] at l1
          have l3 : (givJ a).length ≤ a.items.length := filter_len _ _
          have l4 := D.sz
          exact Nat.lt_of_le_of_lt (m := 128) (by omega) (by decide)
        · rw [c, if_pos rfl] at more
          rw [upd_same, more, natsV_app]
          rfl
      | false =>
        refine iteF ⟨s', ?_⟩
        rw [c, if_neg (by simp), List.append_nil] at more
        rw [more]
        exact hD'
    · rintro H' ⟨s', hD'⟩
      rw [natsV_len, List.take_length] at hD'
      have s2 := s1.trans s'
      have D2 := D.same s2
      refine ⟨_, rfl, D0, (ovJ a).map fun g : Nat => (g : Int), .ref d, fun z => ((untilOf a z.toNat : Int), z), rfl, by rw [← natsV_eq]; exact SqL.of hD', hT.ext s2, rfl, fun H2 e1 e2 t2 => ⟨fun n hn H3 s3 => ?_, fun ns' p H5 pm pw s5 np hp => ?_⟩⟩
      · obtain ⟨g, hg, rfl⟩ := List.mem_map.mp hn
        obtain ⟨x, p', u, hx, _, hk⟩ := mem_givJ.mp (List.mem_filter.mp hg).1
        have D3 := (D2.extN e1).same s3
        obtain ⟨dx3, hd3⟩ := D3.obj
        obtain ⟨pa, li, dp, f1, f2, f3, hpa, I⟩ := D3.get hx
        refine ⟨_, rfl, d, CD, dx3, _, _, rfl, hd3, T.clD, T.nKept, dF_kept, _, rfl, l, _, _, _, rfl, rfl, SqL.of D3.kept, atI_nat f2, pa, CI, dp, _, _, rfl, hpa, T.clI, T.nUntil, iF_until.trans (congrArg some (til_given hk)), _, rfl, (by show 2 ≤ sizeLine; decide), fun t ht => ?_⟩
        refine ⟨t, rfl, Same.new ht, ?_⟩
        rw [upd_same]
        show some (HO.tup [.int (u : Int), .int (g : Int)]) = some (HO.tup [.int ((untilOf a (Int.toNat (g : Int)) : Nat) : Int), .int (g : Int)])
        rw [Int.toNat_natCast, untilOf_given hx hk]
      · have back : ns' = (ns'.map Int.toNat).map fun g : Nat => (g : Int) := by
          rw [List.map_map]
          have : ∀ z ∈ ns', ((fun g : Nat => (g : Int)) ∘ Int.toNat) z = z := fun z hz => by
            obtain ⟨g, _, rfl⟩ := List.mem_map.mp (pm.mem_iff.mp hz)
            show ((Int.toNat (g : Int) : Nat) : Int) = _
            rw [Int.toNat_natCast]
          exact ((List.map_congr_left this).trans (List.map_id' ns')).symm
        have pm2 : (ns'.map Int.toNat).Perm (ovJ a) := by
          have := pm.map Int.toNat
          rw [List.map_map] at this
          have e : (ovJ a).map (Int.toNat ∘ fun g : Nat => (g : Int)) = ovJ a := (List.map_congr_left fun g _ => Int.toNat_natCast g).trans (List.map_id' (ovJ a))
          rw [e] at this
          exact this
        refine k H5 p (ns'.map Int.toNat) pm2 ?_ (fun b o e n => s5 b o (e1 b o (s2 b o e) n)) (t2.ext s5) (s2.free (e2 p np)) (by rw [natsV_eq, ← back]; exact hp)
        rw [List.pairwise_map]
        refine pw.imp_of_mem fun {m n} hm hn h => ?_
        obtain ⟨g, _, rfl⟩ := List.mem_map.mp (pm.mem_iff.mp hm)
        obtain ⟨g', _, rfl⟩ := List.mem_map.mp (pm.mem_iff.mp hn)
        have h' := SrtO.lexB_no.mp h
        simp only [Int.toNat_natCast] at h' ⊢
        omega
end
end Er
set_option Elab.async false
set_option maxRecDepth 100000
set_option maxHeartbeats 4000000
set_option linter.unusedVariables false
set_option autoImplicit false
namespace Er
open PySem PySem.Spec PyProof.Rows L2
open LamX (CodeO TabS TabB ExtN codeO_ne)
/-- neither a table nor a code object is an instance or a list -/
theorem tab_keep {H H' : Hp} {Pt : Addr} {q : Str} (t : TabS H Pt q) (h : ∀ b o, H b = some o → (∀ C dx fs, o ≠ .ins C dx fs) → (∀ xs, o ≠ .lst xs) → H' b = some o) : TabS H' Pt q := by
  obtain ⟨tb, h1, h2, h3⟩ := t
  refine ⟨tb, h _ _ h1 (fun C dx fs z => by cases z) (fun xs z => by cases z), h2, fun pos cv hc => ?_⟩
  obtain ⟨c, e1, e2⟩ := h3 pos cv hc
  refine ⟨c, e1, h _ _ e2 (fun C dx fs z => ?_) (fun xs z => ?_)⟩
  · unfold CodeO at z
    cases z
  · unfold CodeO at z
    cases z
section
variable {P : Program} {w : World} {K : PySem.W.Frag} {mg : Str → Option Value} {base : Heap} {CI CD : Addr}
theorem DeskAt.as_ins {H : Hp} {d l : Addr} {a : Kp187.Abs} {as ls : List Addr} (D : DeskAt CD CI H d a l as ls) {b : Addr} (hb : b ∈ as) : ∃ C dx fs, H b = some (.ins C dx fs) := by
  obtain ⟨j, hj⟩ := List.mem_iff_getElem?.mp hb
  have hj2 : j < a.items.length := by
    rw [← D.len]
    exact (List.getElem?_eq_some_iff.mp hj).1
  obtain ⟨q, lq, dq, e1, _, _, hq, _⟩ := D.get (List.getElem?_eq_getElem hj2)
  have : b = q := Option.some.inj (hj.symm.trans e1)
  rw [this]
  exact ⟨_, _, _, hq⟩
theorem tab_rest {H H' : Hp} {Pt d l : Addr} {q : Str} {a : Kp187.Abs} {as ls : List Addr} (t : TabS H Pt q) (D : DeskAt CD CI H d a l as ls) (r : Rest as H H') : TabS H' Pt q :=
  tab_keep t fun b o e n _ => r b o e fun z => by
    obtain ⟨C, dx, fs, h⟩ := D.as_ins z
    rw [e] at h
    exact n C dx fs (Option.some.inj h)
/-- another day -/
theorem DeskAt.today {H : Hp} {d l dx : Addr} {a : Kp187.Abs} {as ls : List Addr} (D : DeskAt CD CI H d a l as ls) (t : Nat) (hd : H d = some (.ins CD dx (dF (a.many : Int) (a.today : Int) l))) :
    DeskAt CD CI (upd H d (.ins CD dx (dF (a.many : Int) (t : Int) l))) d { a with today := t } l as ls := by
  have nl : l ≠ d := ne_of D.kept hd (by intro z; cases z)
  refine ⟨⟨dx, upd_same⟩, by rw [upd_ne nl]; exact D.kept, D.nd, D.len, D.sz, D.nl, D.nd2, fun j x hx => ?_⟩
  obtain ⟨p, li, e1, e2, ⟨⟨dx2, i1⟩, ⟨gs, i2, i3⟩, i4⟩⟩ := D.it j x hx
  have np : p ≠ d := fun z => D.nd2 (z ▸ List.mem_of_getElem? e1)
  exact ⟨p, li, e1, e2, ⟨dx2, by rw [upd_ne np]; exact i1⟩, ⟨gs, by rw [upd_ne (ne_of i2 hd (by intro z; cases z))]; exact i2, i3⟩, i4⟩
/-! ### er_days -/
theorem act_days (a : Kp187.Abs) (n : Nat) : Kp187.act a (.days n) = if 366 < n ∨ 100000 < a.today + n then (a, .num (-22)) else
      (Kp187.days n a, .num ((Kp187.thereCount a - Kp187.thereCount (Kp187.days n a) : Nat) : Int)) := rfl
/-- what is not F's and is no table stands -/
def KeepsN (F : Addr → Prop) (H H' : Hp) : Prop := ∀ b o, H b = some o → ¬ F b → (∀ ps, o ≠ .tbl ps) → H' b = some o
def AfterT (CD CI Pt : Addr) (H : Hp) (d : Addr) (a : Kp187.Abs) (F : Addr → Prop) (c : Kp187.Call) (Q : VK) : Prop :=
  ∀ v H', (Kp187.act a c).2 = .num v → Desk CD CI H' d (Kp187.act a c).1 F → KeepsN F H H' → TabS H' Pt lamQ → Q (.int v) H'
def spErDays (CD CI Pt : Addr) : Sp := fun vs H Q _ => ∃ (d : Addr) (a : Kp187.Abs) (F : Addr → Prop) (n : Nat), vs = [.ref d, .int (n : Int)] ∧ Desk CD CI H d a F ∧ Good a ∧ TabS H Pt lamQ ∧ AfterT CD CI Pt H d a F (.days n) Q
theorem scDa : FnScope ["self", "n", "before", "number"] ["self", "n"] (defScope sErDays) := ⟨rfl, rfl, rfl, by decide +kernel, rfl, by decide +kernel, by decide +kernel⟩
theorem ok_erDays {f fA fO fX Pt : Addr} {fd fdA fdO fdX : FuncData} (F : Fun K "er_days" "Desk.er_days" sErDays f fd) (T : Txt K mg CI CD)
    (GA : FnOk P w K mg base CX0 2 fA fdA ["self"] (spAllThere CD CI)) (bA : Binds K fdA ["self"] []) (mA : Meth K CD "all_there" fA)
    (GO : FnOk P w K mg base CX0 4 fO fdO ["self"] (spOver CD CI Pt)) (bO : Binds K fdO ["self"] []) (mO : Meth K CD "over_by_now" fO)
    (GX : FnOk P w K mg base CX0 4 fX fdX ["self", "given", "why", "day"] (spEraseAll CD CI)) (bX : Binds K fdX ["self", "given", "why", "day"] []) (mX : Meth K CD "erase_all_with" fX) :
    FnOk P w K mg base CX0 5 f fd ["self", "n"] (spErDays CD CI Pt) := by
  refine F.ok scDa (fun vs H Q E h => ?_) (fun cdv A outer s H vs Q E hr h => ?_)
  · obtain ⟨d, a, F, n, rfl, _⟩ := h
    rfl
  · obtain ⟨d, a, F, n, rfl, ⟨l, as, ls, D, hF⟩, G, hT, k⟩ := h
    have hr2 : Room 2 _ := hr.mono (by decide)
    refine ⟨_, pss_cons (ps_if (PW.pt (pw_or (pt_cmpR op_gt (pv 1) (pe_gi T.kMDAYS) (nomark _)) (pw_or1 (pt_cmpR op_gt (pe_op op_add (pe_fld (pv 0) rfl) (pv 1)) (pe_gi T.kDAY) (nomark _))))) (pss_one (ps_ret (pe_un un_neg (pe_gi T.kWRONG)))) pss_nil)
      (pss_cons (ps_set (i := 2) scDa.nd rfl (Or.inl rfl) (pe_callB call_len_seq (by rfl) T.bLen PySem.boot_len (pa_cons (pe_meth0 (pv 0) T.clD mA GA hr2 bA .nil pass0) pa_nil)))
      (pss_cons (ps_fld (pv 0) (pe_op op_add (pe_fld (pv 0) rfl) (pv 1)) rfl)
      (pss_cons (ps_for PassesOwn.never rfl (pi_list (pe_meth0 (pv 0) T.clD mO GO hr bO .nil pass0)) (pg_name (i := 3) scDa.nd rfl (Or.inl rfl))
        (pss_one (ps_expr (pe_meth (pv 0) T.clD mX GX hr bX .nil pass0 (pa_cons (pv 3) (pa_cons (pe_gi T.kOVER) (pa_cons (pe_op op_add (pe_fld (pe_ix ix_list (pe_fld (pv 0) rfl) (pv 3) (fun _ _ => rfl)) rfl) pe_int) pa_nil)))))))
      (pss_one (ps_ret (pe_op op_sub (pv 2) (pe_callB call_len_seq (by rfl) T.bLen PySem.boot_len (pa_cons (pe_meth0 (pv 0) T.clD mA GA hr2 bA .nil pass0) pa_nil)))))))), ?_⟩
    have DD : Desk CD CI H d a F := ⟨l, as, ls, D, hF⟩
    obtain ⟨dx, hd⟩ := D.obj
    have still : ∀ {v : Int}, Kp187.act a (.days n) = (a, .num v) → Q (.int v) H := fun {v} e => k v H (by rw [e]) (by rw [e]; exact DD) (fun b o e' _ _ => e') hT
    refine ⟨_, rfl, _, _, rfl, rfl, _, rfl, ?_⟩
    refine ite2 (fun c => ⟨_, rfl, still ?_⟩) (fun c => ?_)
    · have := of_decide_eq_true c
      rw [act_days, if_pos (.inl (by omega))]
    refine ⟨_, rfl, d, CD, dx, _, _, rfl, hd, T.clD, T.nToday, dF_today, _, rfl, _, _, rfl, rfl, _, _, rfl, rfl, _, rfl, ?_⟩
    refine ite2 (fun c2 => ⟨_, rfl, still ?_⟩) (fun c2 => ?_)
    · have := of_decide_eq_true c2
      rw [act_days, if_pos (.inr (by omega))]
    rw [decide_eq_true_eq] at c c2
    have ok : ¬ (366 < n ∨ 100000 < a.today + n) := by omega
    have ea := act_days a n
    rw [if_neg ok] at ea
    refine ⟨_, rfl, d, dx, _, rfl, hd, dF_no (by decide +kernel) (by decide +kernel) (by decide +kernel), d, a, l, as, ls, rfl, D, fun H1 q1 s1 nq1 hq1 => ?_⟩
    refine ⟨q1, _, rfl, .inl (SqL.of hq1), ?_⟩
    have D1 := D.same s1
    have hd1 := s1 _ _ hd
    refine ⟨_, rfl, d, CD, dx, _, _, rfl, hd1, T.clD, T.nToday, dF_today, _, rfl, _, _, rfl, rfl, _, rfl, d, CD, dx, _, rfl, hd1, T.clD, T.nToday, (by show 3 < 1000; decide), ?_⟩
    rw [dF_putT]
    have et : (a.today : Int) + (n : Int) = ((a.today + n : Nat) : Int) := by omega
    rw [et]
    have D2 := D1.today (a.today + n) hd1
    have T2 : TabS (upd H1 d (.ins CD dx (dF (a.many : Int) ((a.today + n : Nat) : Int) l))) Pt lamQ := tab_keep (hT.ext s1) fun b o e nn _ => by
      rw [upd_ne fun z => nn _ _ _ (Option.some.inj (e.symm.trans (z ▸ hd1)))]
      exact e
    have k2 : ∀ b o, H b = some o → b ≠ d → upd H1 d (.ins CD dx (dF (a.many : Int) ((a.today + n : Nat) : Int) l)) b = some o := fun b o e nb => by
      rw [upd_ne nb]
      exact s1 b o e
    generalize upd H1 d (.ins CD dx (dF (a.many : Int) ((a.today + n : Nat) : Int) l)) = H2 at D2 T2 k2
    obtain ⟨dx2, hd2⟩ := D2.obj
    refine ⟨_, rfl, d, dx2, _, rfl, hd2, dF_no (by decide +kernel) (by decide +kernel) (by decide +kernel), d, _, l, as, ls, rfl, D2, T2, fun H3 q overs pm pw e3 T3 nq hq => ?_⟩
    have D3 := D2.extN e3
    have nqa : q ∉ as := fun z => by
      obtain ⟨o, ho⟩ := D2.as_some z
      rw [nq] at ho
      cases ho
    have uo : untilOf { a with today := a.today + n } = untilOf a := rfl
    rw [uo] at pw
    have inO : ∀ g, g ∈ overs ↔ g ∈ givJ a ∧ untilOf a g < a.today + n := fun g => by
      rw [pm.mem_iff]
      unfold ovJ
      rw [List.mem_filter, decide_eq_true_eq]
      exact Iff.rfl
    have de := days_eq G (by omega) pw inO
    rw [de] at ea
    refine ⟨q, rfl, ⟨_, SqL.of hq⟩, for_list (K := K) (a := q) (xs := natsV overs) (fun i σ H' => ∃ v3, σ = [some (.ref d), some (.int (n : Int)), some (.int (((pick as (thereJ a)).length : Nat) : Int)), v3] ∧ DeskAt CD CI H' d (eraseL 3 (fun g => untilOf a g + 1) { a with today := a.today + n } (overs.take i)) l as ls ∧ Rest as H3 H')
      ⟨none, rfl, D3, Rest.of (Same.refl _)⟩ (fun i σ H' _ ⟨_, _, _, r⟩ => SqL.of (r _ _ hq nqa)) ?_ ?_⟩
    · rintro i y σ H' hi ⟨v3, rfl, D', r'⟩
      obtain ⟨g, hg, rfl⟩ := natsV_at hi
      obtain ⟨x, p', u, hx, _, hk⟩ := mem_givJ.mp ((inO g).mp (List.mem_of_getElem? hg)).1
      obtain ⟨y, hy, hky⟩ := eraseL_at 3 (fun g => untilOf a g + 1) { a with today := a.today + n } (overs.take i) hx
      obtain ⟨pa, li, dp, e1, e2, e3', hp, I⟩ := D'.get hy
      obtain ⟨dx', hd'⟩ := D'.obj
      have etv : tilV y.kind = .int (u : Int) := by rw [hky]; exact til_given hk
      refine ⟨_, rfl, d, dx', _, rfl, hd', dF_no (by decide +kernel) (by decide +kernel) (by decide +kernel), _, rfl, _, rfl, d, CD, dx', _, _, rfl, hd', T.clD, T.nKept, dF_kept, _, rfl, l, _, _, _, rfl, rfl, SqL.of D'.kept, atI_nat e2, pa, CI, dp, _, _, rfl, hp, T.clI, T.nUntil, iF_until.trans (congrArg some etv), _, _, rfl, rfl,
        d, _, l, as, ls, g, 3, u + 1, rfl, D', by omega, fun H4 D4 r4 => ?_⟩
      refine ⟨some (.int (g : Int)), rfl, ?_, r'.trans r4⟩
      rw [take_more hg, eraseL_add, untilOf_given hx hk]
      exact D4
    · rintro σ H4 ⟨v3, rfl, D4, r4⟩
      rw [natsV_len, List.take_length] at D4
      obtain ⟨dx4, hd4⟩ := D4.obj
      refine ⟨_, rfl, _, rfl, d, dx4, _, rfl, hd4, dF_no (by decide +kernel) (by decide +kernel) (by decide +kernel), d, _, l, as, ls, rfl, D4, fun H5 q5 s5 nq5 hq5 => ?_⟩
      refine ⟨q5, _, rfl, .inl (SqL.of hq5), _, _, rfl, rfl, ?_⟩
      dsimp only
      have le : Kp187.thereCount (eraseL 3 (fun g => untilOf a g + 1) { a with today := a.today + n } overs) ≤ Kp187.thereCount a := eraseL_le _ _ _ _
      rw [pick_len, pick_len, thereJ_len, thereJ_len, sub_nat le]
      refine k _ H5 (by rw [ea]) (by rw [ea]; exact ⟨l, as, ls, D4.same s5, hF⟩) (fun b o e nF nt => ?_) ((tab_rest T3 D3 r4).ext s5)
      exact s5 b o (r4 b o (e3 b o (k2 b o e fun z => nF (z ▸ hF.1)) nt) fun z => nF (hF.2.2.1 b z))
/-! ### er_of -/
theorem act_of (a : Kp187.Abs) (p : Nat) : Kp187.act a (.of p) = (a, if 64 ≤ p then .num (-22) else .num ((a.items.filter fun x => x.gone.isNone && x.inside.any fun g => Kp187.personOf a g == some p).length : Nat)) := rfl
def spErOf (CD CI : Addr) : Sp := fun vs H Q _ => ∃ (d : Addr) (a : Kp187.Abs) (F : Addr → Prop) (p : Nat), vs = [.ref d, .int (p : Int)] ∧ Desk CD CI H d a F ∧ Good a ∧ After CD CI H d a F (.of p) Q
theorem scOf : FnScope ["self", "person", "item"] ["self", "person"] (defScope sErOf) := ⟨rfl, rfl, rfl, by decide +kernel, rfl, by decide +kernel, by decide +kernel⟩
theorem inV_pn (a : Kp187.Abs) (p : Nat) (gs : List Nat) (h : Givens a gs) : inV (.int (p : Int)) (gs.map fun g => V.int (pn a g : Int)) = gs.any fun g => Kp187.personOf a g == some p := by
  unfold inV
  rw [List.any_map, Bool.eq_iff_iff, List.any_eq_true, List.any_eq_true]
  constructor
  · rintro ⟨g, h1, h2⟩
    have e : ((pn a g : Int) == (p : Int)) = true := h2
    rw [beq_iff_eq] at e
    obtain ⟨x, u, e1, e2, e3, e4⟩ := h.pn h1
    have : pn a g = p := by omega
    refine ⟨g, h1, ?_⟩
    rw [e4, this]
    exact beq_self_eq_true _
  · rintro ⟨g, h1, h2⟩
    obtain ⟨x, u, e1, e2, e3, e4⟩ := h.pn h1
    rw [e4, beq_iff_eq] at h2
    have : pn a g = p := Option.some.inj h2
    refine ⟨g, h1, ?_⟩
    show ((pn a g : Int) == (p : Int)) = true
    rw [this]
    exact beq_self_eq_true _
def ofT (a : Kp187.Abs) (p j : Nat) : Bool := (Kp187.insideOf a j).any fun g => Kp187.personOf a g == some p
theorem of_len (a : Kp187.Abs) (p : Nat) : ((thereJ a).filter (ofT a p)).length = (a.items.filter fun x => x.gone.isNone && x.inside.any fun g => Kp187.personOf a g == some p).length := by
  rw [← range_len]
  unfold thereJ
  rw [List.filter_filter]
  congr 1
  apply List.filter_congr
  intro j _
  unfold ofT Kp187.insideOf Kp187.there Kp187.item
  cases e : a.items[j]? with
  | none => rfl
  | some x =>
    show ((x.inside.any fun g => Kp187.personOf a g == some p) && x.gone.isNone) = (x.gone.isNone && x.inside.any fun g => Kp187.personOf a g == some p)
    exact Bool.and_comm _ _
theorem ok_erOf {f fA fO : Addr} {fd fdA fdO : FuncData} (F : Fun K "er_of" "Desk.er_of" sErOf f fd) (T : Txt K mg CI CD)
    (GA : FnOk P w K mg base CX0 2 fA fdA ["self"] (spAllThere CD CI)) (bA : Binds K fdA ["self"] []) (mA : Meth K CD "all_there" fA)
    (GO : FnOk P w K mg base CX0 1 fO fdO ["self", "given"] (spPeopleOf K CD CI)) (bO : Binds K fdO ["self", "given"] []) (mO : Meth K CD "people_of" fO) :
    FnOk P w K mg base CX0 3 f fd ["self", "person"] (spErOf CD CI) := by
  refine F.ok scOf (fun vs H Q E h => ?_) (fun cdv A outer s H vs Q E hr h => ?_)
  · obtain ⟨d, a, F, p, rfl, _⟩ := h
    rfl
  · obtain ⟨d, a, F, p, rfl, ⟨l, as, ls, D, hF⟩, G, k⟩ := h
    have hr1 : Room 1 _ := hr.mono (by decide)
    refine ⟨_, pss_cons (ps_if (pt_cmpR op_gt (pv 1) (pe_gi T.kPERSON) (nomark _)) (pss_one (ps_ret (pe_un un_neg (pe_gi T.kWRONG)))) pss_nil)
      (pss_one (ps_ret (pe_callB call_len_seq (by rfl) T.bLen PySem.boot_len (pa_cons (pe_lc (own := [("item", 2)]) (g := gName 2) (tt := tTest (tOp (rIn K false) (tVar 1) (tMeth CD "people_of" (spPeopleOf K CD CI) [] E0 (tVar 0) (tCons (tFld K (tVar 2) "inside") tNil)))) (te := tVar 2) rfl scOf.nd (pi_list (pe_meth0 (pv 0) T.clD mA GA hr bA .nil pass0)) (blkOk_by (N := ["self", "person", "item"]) (sc := defScope sErOf) (by decide +kernel))
        (fun _ _ _ _ _ => pg_name (i := 2) scOf.nd rfl (Or.inl rfl)) (fun _ _ _ _ _ => pts_one (pt_cmpR op_in_seq (pv 1) (pe_meth (pv 0) T.clD mO GO hr1 bO .nil pass0 (pa_cons (pe_fld (pv 2) rfl) pa_nil)) rfl)) (fun _ _ _ _ _ => pv 2)) pa_nil)))), ?_⟩
    have DD : Desk CD CI H d a F := ⟨l, as, ls, D, hF⟩
    obtain ⟨dx, hd⟩ := D.obj
    refine ⟨_, rfl, _, _, rfl, rfl, _, rfl, ?_⟩
    refine ite2 (fun c => ⟨_, rfl, k.still DD ?_⟩) (fun c => ?_)
    · have := of_decide_eq_true c
      rw [act_of, if_pos (by omega)]
    rw [decide_eq_true_eq] at c
    have ea := act_of a p
    rw [if_neg (by omega)] at ea
    refine ⟨_, rfl, d, dx, _, rfl, hd, dF_no (by decide +kernel) (by decide +kernel) (by decide +kernel), d, a, l, as, ls, rfl, D, fun H1 q1 s1 nq1 hq1 => ?_⟩
    refine ⟨q1, rfl, ⟨_, SqL.of hq1⟩, fun D0 hD => ?_⟩
    refine lc_list (K := K) (a := q1) (xs := pick as (thereJ a)) (fun i H' => Same H1 H' ∧ H' D0 = some (.lst (pick as (((thereJ a).take i).filter (ofT a p))))) ⟨Same.new hD, upd_same⟩ (fun i H' _ ⟨s', _⟩ => SqL.of (s' _ _ hq1)) ?_ ?_
    · rintro i y H' hi ⟨s', hD'⟩
      obtain ⟨j, hj, rfl⟩ := pick_at hi
      obtain ⟨x, hx, _⟩ := mem_thereJ.mp (List.mem_of_getElem? hj)
      have D' := D.same (s1.trans s')
      obtain ⟨dx', hd'⟩ := D'.obj
      obtain ⟨pa, li, dp, e1, e2, e3, hp, I⟩ := D'.get hx
      obtain ⟨gs, hli, hgs⟩ := I.lst
      have ox := G.it j x hx
      have gv : Givens a gs := fun g hg => by
        obtain ⟨_, y, p', u, h2, h3⟩ := ox.ins g (hgs.mem_iff.mp hg)
        exact ⟨y, p', u, h2, h3, ((G.it g y h2).giv p' u h3).1⟩
      have lgs : gs.length ≤ 128 := by
        have nd : gs.Nodup := hgs.nodup_iff.mpr (rise_nodup ox.rise)
        have := nd.length_le_of_subset (l₂ := List.range a.items.length) fun g hg => List.mem_range.mpr (by
          obtain ⟨_, y, p', u, h2, h3⟩ := ox.ins g (hgs.mem_iff.mp hg)
          exact (List.getElem?_eq_some_iff.mp h2).1)
        rw [List.length_range] at this
        exact Nat.le_trans this G.len
      rw [getD_of e1]
      refine ⟨rfl, _, rfl, _, rfl, d, dx', _, rfl, hd', dF_no (by decide +kernel) (by decide +kernel) (by decide +kernel), _, rfl, pa, CI, dp, _, _, rfl, hp, T.clI, T.nInside, iF_inside, d, a, F, li, gs, rfl, ⟨l, as, ls, D', hF⟩, SqL.of hli, by omega, gv, fun H2 q2 s2 nq2 hq2 => ?_⟩
      refine ⟨q2, _, rfl, .inl (SqL.of hq2), rfl, ?_, _, rfl, ?_⟩
      · rw [List.all_map, List.all_eq_true]
        intro z _
        rfl
      have ec : (if (false : Bool) = true then !inV (V.int (p : Int)) (gs.map fun g => V.int (pn a g : Int)) else inV (V.int (p : Int)) (gs.map fun g => V.int (pn a g : Int))) = ofT a p j := by
        rw [if_neg (by simp), inV_pn a p gs gv]
        unfold ofT
        rw [insideOf_some hx, Bool.eq_iff_iff, List.any_eq_true, List.any_eq_true]
        exact ⟨fun ⟨g, h1, h2⟩ => ⟨g, hgs.mem_iff.mp h1, h2⟩, fun ⟨g, h1, h2⟩ => ⟨g, hgs.mem_iff.mpr h1, h2⟩⟩
      rw [ec]
      have s12 := s'.trans s2
      have hD2 := s2 _ _ hD'
      have more := take_filter (ofT a p) hj
      cases c : ofT a p j with
      | true =>
        refine iteT ⟨_, rfl, _, hD2, ?_, same_upd s12 hD, ?_⟩
        · rw [pick_len]
          have l1 := List.length_filter_le (ofT a p) ((thereJ a).take i)
          rw [List.length_take] at l1
          have l3 := thereJ_le a
          have l4 := D.sz
          exact Nat.lt_of_le_of_lt (m := 128) (by omega) (by decide)
        · rw [c, if_pos rfl] at more
          rw [upd_same, more, pick_app]
          show _ = some (HO.lst (_ ++ [V.ref (as.getD j 0)]))
          rw [getD_of e1]
      | false =>
        refine iteF ⟨s12, ?_⟩
        rw [c, if_neg (by simp), List.append_nil] at more
        rw [more]
        exact hD2
    · rintro H' ⟨s', hD'⟩
      rw [pick_len, List.take_length] at hD'
      refine ⟨D0, _, rfl, .inl (SqL.of hD'), ?_⟩
      rw [pick_len, of_len]
      refine k _ H' (by rw [ea]) ?_ (Keeps.of_same (s1.trans s'))
      rw [ea]
      exact (DD.same (s1.trans s')).mono fun b hb => .inl hb
/-! ### er_why -/
def ansL : Kp187.Ans → List Int
  | .num v => [0, v]
  | .told v a b c => [1, v, (a : Int), (b : Int), (c : Int)]
theorem ansL_eq (x : Kp187.Ans) : ansL x = Kp187Neutral.wrKp187_Ans x := by
  cases x <;> rfl
def spErWhy (CD CI : Addr) : Sp := fun vs H Q _ => ∃ (d : Addr) (a : Kp187.Abs) (F : Addr → Prop) (i : Nat), vs = [.ref d, .int (i : Int)] ∧ Desk CD CI H d a F ∧
  ∀ (H' : Hp) (q : Addr), Same H H' → H q = none → H' q = some (.lst ((ansL (Kp187.act a (.why i)).2).map V.int)) → Q (.ref q) H'
theorem scWy : FnScope ["self", "number", "item"] ["self", "number"] (defScope sErWhy) := ⟨rfl, rfl, rfl, by decide +kernel, rfl, by decide +kernel, by decide +kernel⟩
theorem ok_erWhy {f fE : Addr} {fd fdE : FuncData} (F : Fun K "er_why" "Desk.er_why" sErWhy f fd) (T : Txt K mg CI CD) (GE : FnOk P w K mg base CX0 1 fE fdE ["self"] (spIsErased CI)) (bE : Binds K fdE ["self"] []) (mE : Meth K CI "is_erased" fE) :
    FnOk P w K mg base CX0 2 f fd ["self", "number"] (spErWhy CD CI) := by
  refine F.ok scWy (fun vs H Q E h => ?_) (fun cdv A outer s H vs Q E hr h => ?_)
  · obtain ⟨d, a, F, i, rfl, _⟩ := h
    rfl
  · obtain ⟨d, a, F, i, rfl, ⟨l, as, ls, D, hF⟩, k⟩ := h
    refine ⟨_, pss_cons (ps_if (pt_cmpR op_ge (pv 1) (pe_callB call_len_seq (by rfl) T.bLen PySem.boot_len (pa_cons (pe_fld (pv 0) rfl) pa_nil)) (nomark _)) (pss_one (ps_ret (pe_lst (pa_cons (pe_gi T.kFORM) (pa_cons (pe_un un_neg (pe_gi T.kABSENT)) pa_nil))))) pss_nil)
      (pss_cons (ps_set (i := 2) scWy.nd rfl (Or.inl rfl) (pe_ix ix_list (pe_fld (pv 0) rfl) (pv 1) (fun _ _ => rfl)))
      (pss_cons (ps_if (pt_val (pe_meth0 (pv 2) T.clI mE GE hr bE .nil pass0)) (pss_one (ps_ret (pe_lst (pa_cons (pe_gi T.kWFORM) (pa_cons pe_int (pa_cons (pe_fld (pv 2) rfl) (pa_cons (pe_fld (pv 2) rfl) (pa_cons (pe_fld (pv 2) rfl) pa_nil)))))))) pss_nil)
      (pss_one (ps_ret (pe_lst (pa_cons (pe_gi T.kWFORM) (pa_cons pe_int (pa_cons (pe_fld (pv 2) rfl) (pa_cons (pe_callB call_len_seq (by rfl) T.bLen PySem.boot_len (pa_cons (pe_fld (pv 2) rfl) pa_nil)) (pa_cons pe_int pa_nil)))))))))), ?_⟩
    obtain ⟨dx, hd⟩ := D.obj
    refine ⟨_, rfl, _, rfl, d, CD, dx, _, _, rfl, hd, T.clD, T.nKept, dF_kept, l, _, rfl, .inl (SqL.of D.kept), _, _, rfl, rfl, _, rfl, ?_⟩
    rw [List.length_map, D.len]
    refine ite2 (fun c => ?_) (fun c => ?_)
    · have hn : a.items.length ≤ i := by
        have := of_decide_eq_true c
        omega
      refine ⟨_, rfl, (by show 2 ≤ sizeLine; decide), fun q hq => k _ q (Same.new hq) hq ?_⟩
      have e : (Kp187.act a (.why i)).2 = .num (-2) := by
        show (match a.items[i]? with
          | none => Kp187.Ans.num (-2)
          | some x => match x.gone with
            | none => .told 0 x.purposes x.inside.length 0
            | some g => .told 1 g.why g.by_ g.day) = .num (-2)
        rw [List.getElem?_eq_none hn]
      rw [upd_same, e]
      rfl
    · have hn : i < a.items.length := by
        rw [decide_eq_true_eq] at c
        omega
      have hx := List.getElem?_eq_getElem hn
      obtain ⟨p, li, dp, e1, e2, e3, hp, I⟩ := D.get hx
      have e : (Kp187.act a (.why i)).2 = match a.items[i].gone with
            | none => .told 0 a.items[i].purposes a.items[i].inside.length 0
            | some g => .told 1 g.why g.by_ g.day := by
        show (match a.items[i]? with
          | none => Kp187.Ans.num (-2)
          | some x => match x.gone with
            | none => .told 0 x.purposes x.inside.length 0
            | some g => .told 1 g.why g.by_ g.day) = _
        rw [hx]
      refine ⟨_, rfl, d, CD, dx, _, _, rfl, hd, T.clD, T.nKept, dF_kept, _, rfl, l, _, _, _, rfl, rfl, SqL.of D.kept, atI_nat e2, ?_⟩
      refine ⟨_, rfl, p, dp, _, rfl, hp, iF_not (by decide +kernel), p, dp, _, _, _, li, whyN a.items[i].gone, _, _, rfl, hp, _, rfl, ?_⟩
      rw [I.er]
      cases hg : a.items[i].gone with
      | some g =>
        rw [hg] at e
        refine iteT ⟨_, rfl, p, CI, dp, _, _, rfl, hp, T.clI, T.nWhy, iF_why, _, rfl, p, CI, dp, _, _, rfl, hp, T.clI, T.nBy, iF_by, _, rfl, p, CI, dp, _, _, rfl, hp, T.clI, T.nDay, iF_day, (by show 5 ≤ sizeLine; decide), fun q hq => k _ q (Same.new hq) hq ?_⟩
        rw [upd_same, e, hg]
        rfl
      | none =>
        rw [hg] at e
        obtain ⟨gs, hli, hgs⟩ := I.lst
        refine iteF ⟨_, rfl, p, CI, dp, _, _, rfl, hp, T.clI, T.nPurposes, iF_purposes, _, rfl, p, CI, dp, _, _, rfl, hp, T.clI, T.nInside, iF_inside, li, _, rfl, .inl (SqL.of hli), (by show 5 ≤ sizeLine; decide), fun q hq => k _ q (Same.new hq) hq ?_⟩
        rw [upd_same, e, natsV_len, hgs.length_eq]
        rfl
end
end Er
set_option Elab.async false
set_option maxRecDepth 100000
set_option maxHeartbeats 4000000
set_option linter.unusedVariables false
set_option autoImplicit false
namespace Er
open PySem PySem.Spec PyProof.Rows L2
open LamX (CodeO TabS TabB ExtN codeO_ne)
def nums : List Int := [1, 3, 2, 2, 2, 1, 1, 1, 1]
/-- a call's first word, and how long it is -/
theorem W.head {w : List Int} {x : Kp187.Call} (h : W w x) : ∃ k n : Nat, w[0]? = some (k : Int) ∧ nums[k]? = some (n : Int) ∧ (k = 2 → ∃ len : Nat, w[3]? = some (len : Int) ∧ w.length = 4 + len ∧ n = 2) ∧ (k ≠ 2 → w.length = 1 + n) := by
  cases h with
  | start m h => exact ⟨0, 1, rfl, rfl, fun e => by omega, fun _ => rfl⟩
  | give p m u h1 h2 h3 => exact ⟨1, 3, rfl, rfl, fun e => by omega, fun _ => rfl⟩
  | make k m row h1 h2 h3 h4 h5 => exact ⟨2, 2, rfl, rfl, fun _ => ⟨row.length, rfl, by rw [List.length_append, List.length_map]; rfl, rfl⟩, fun e => absurd rfl e⟩
  | use i p h1 h2 => exact ⟨3, 2, rfl, rfl, fun e => by omega, fun _ => rfl⟩
  | back i m h1 h2 => exact ⟨4, 2, rfl, rfl, fun e => by omega, fun _ => rfl⟩
  | person p h => exact ⟨5, 1, rfl, rfl, fun e => by omega, fun _ => rfl⟩
  | days n h => exact ⟨6, 1, rfl, rfl, fun e => by omega, fun _ => rfl⟩
  | of p h => exact ⟨7, 1, rfl, rfl, fun e => by omega, fun _ => rfl⟩
  | why i h => exact ⟨8, 1, rfl, rfl, fun e => by omega, fun _ => rfl⟩
theorem drop_at {ns w r : List Int} {b i : Nat} {z : Int} (h : ns.drop b = w ++ r) (hi : w[i]? = some z) : ns[b + i]? = some z := by
  have e : (ns.drop b)[i]? = some z := by
    rw [h, List.getElem?_append_left (List.getElem?_eq_some_iff.mp hi).1]
    exact hi
  rw [List.getElem?_drop] at e
  exact e
theorem ints_at {ns : List Int} {i : Nat} {z : Int} (h : ns[i]? = some z) : (ns.map V.int)[i]? = some (V.int z) := by
  rw [List.getElem?_map, h]
  rfl
theorem t_no {c A B : Prop} [Decidable c] (hc : ¬ c) (h : B) : if decide c = true then A else B := by
  rw [decide_eq_false hc]
  exact iteF h
theorem t_yes {c A B : Prop} [Decidable c] (hc : c) (h : A) : if decide c = true then A else B := by
  rw [decide_eq_true hc]
  exact iteT h
section
variable {P : Program} {w : World} {K : PySem.W.Frag} {mg : Str → Option Value} {base : Heap} {CI CD : Addr}
def spEnd (K : PySem.W.Frag) : Sp := fun vs H Q _ => ∃ (p : Addr) (ns : List Int) (b : Nat) (wd : List Int) (x : Kp187.Call), vs = [.ref p, .int (b : Int)] ∧ SqL K H p (ns.map V.int) ∧ W wd x ∧ ns.drop b = wd ++ ns.drop (b + wd.length) ∧ Q (.int ((b + wd.length : Nat) : Int)) H
theorem scEn : FnScope ["calls", "begin", "end"] ["calls", "begin"] (defScope sEndOfCall) := ⟨rfl, rfl, rfl, by decide +kernel, rfl, by decide +kernel, by decide +kernel⟩
theorem ok_end {f aN : Addr} {fd : FuncData} (F : Fun K "end_of_call" "end_of_call" sEndOfCall f fd) (T : Txt K mg CI CD) (gN : mg "NUMBERS_OF_CALL" = some (.ref aN)) (tN : ∀ H, SqT K H aN (nums.map V.int)) : FnOk P w K mg base CX0 1 f fd ["calls", "begin"] (spEnd K) := by
  refine F.ok scEn (fun vs H Q E h => ?_) (fun cdv A outer s H vs Q E hr h => ?_)
  · obtain ⟨p, ns, b, wd, x, rfl, _⟩ := h
    rfl
  · obtain ⟨p, ns, b, wd, x, rfl, hS, hW, hd, k⟩ := h
    refine ⟨_, pss_cons (ps_set (i := 2) scEn.nd rfl (Or.inl rfl) (pe_op op_add (pe_op op_add (pv 1) pe_int) (pe_ix ix_tup (pe_glob (v := .ref aN) rfl gN rfl) (pe_ix ix_list (pv 0) (pv 1) (fun _ _ => rfl)) (fun _ _ => rfl))))
      (pss_cons (ps_if (pt_cmpR op_eq (pe_ix ix_list (pv 0) (pv 1) (fun _ _ => rfl)) (pe_gi T.kMAKE) (nomark _)) (pss_one (ps_ret (pe_op op_add (pe_op op_add (pv 2) pe_int) (pe_ix ix_list (pv 0) (pv 2) (fun _ _ => rfl))))) pss_nil)
      (pss_one (ps_ret (pv 2)))), ?_⟩
    obtain ⟨c, n, h0, hn, h2, h1⟩ := hW.head
    have at0 : (ns.map V.int)[b]? = some (V.int (c : Int)) := ints_at (drop_at (i := 0) hd h0)
    refine ⟨_, rfl, _, _, rfl, rfl, _, rfl, _, rfl, p, _, _, _, rfl, rfl, hS, atI_nat at0, aN, _, _, _, rfl, rfl, tN H, atI_nat (ints_at hn), _, _, rfl, rfl, ?_⟩
    refine ⟨_, rfl, _, rfl, p, _, _, _, rfl, rfl, hS, atI_nat at0, rfl, _, rfl, ?_⟩
    dsimp only
    by_cases c2 : c = 2
    · obtain ⟨len, h3, h4, h5⟩ := h2 c2
      have at3 : (ns.map V.int)[b + 3]? = some (V.int (len : Int)) := ints_at (drop_at (i := 3) hd h3)
      have ei : (b : Int) + 1 + (n : Int) = ((b + 3 : Nat) : Int) := by omega
      rw [ei]
      refine t_yes (by rw [c2]; rfl) ⟨_, rfl, _, _, rfl, rfl, _, rfl, _, rfl, p, _, _, _, rfl, rfl, hS, atI_nat at3, _, _, rfl, rfl, ?_⟩
      have ee : ((b + 3 : Nat) : Int) + 1 + (len : Int) = ((b + wd.length : Nat) : Int) := by omega
      rw [← ee] at k
      exact k
    · refine t_no (fun z => c2 ?_) ⟨_, rfl, ?_⟩
      · have := V.int.inj z
        omega
      · have := h1 c2
        have ee : (b : Int) + 1 + (n : Int) = ((b + wd.length : Nat) : Int) := by omega
        rw [ee]
        exact k
/-! ### number_told -/
/-- F's are instances and lists alone -/
def FK (F : Addr → Prop) (H : Hp) : Prop := ∀ b, F b → (∃ C dx fs, H b = some (.ins C dx fs)) ∨ ∃ xs, H b = some (.lst xs)
def AfterN (CD CI Pt : Addr) (H : Hp) (d : Addr) (a : Kp187.Abs) (F : Addr → Prop) (c : Kp187.Call) (Q : VK) : Prop :=
  ∀ v H', (Kp187.act a c).2 = .num v → Desk CD CI H' d (Kp187.act a c).1 (fun b => F b ∨ H b = none) → KeepsN F H H' → TabS H' Pt lamQ → Q (.int v) H'
theorem tab_FK {H H' : Hp} {Pt : Addr} {F : Addr → Prop} {q : Str} (t : TabS H Pt q) (hF : FK F H) (kp : Keeps F H H') : TabS H' Pt q :=
  tab_keep t fun b o e n1 n2 => kp b o e fun z => by
    rcases hF b z with ⟨C, dx, fs, h⟩ | ⟨xs, h⟩
    · rw [e] at h
      exact n1 C dx fs (Option.some.inj h)
    · rw [e] at h
      exact n2 xs (Option.some.inj h)
theorem AfterN.after {H : Hp} {d Pt : Addr} {a : Kp187.Abs} {F : Addr → Prop} {c : Kp187.Call} {Q : VK} (k : AfterN CD CI Pt H d a F c Q) (hT : TabS H Pt lamQ) (hF : FK F H) : After CD CI H d a F c Q :=
  fun v H' e D kp => k v H' e D (fun b o e n _ => kp b o e n) (tab_FK hT hF kp)
/-- .. from a heap in which a new list stands -/
theorem AfterN.new {H : Hp} {d Pt q : Addr} {o : HO} {a : Kp187.Abs} {F : Addr → Prop} {c : Kp187.Call} {Q : VK} (k : AfterN CD CI Pt H d a F c Q) (hq : H q = none) : AfterN CD CI Pt (upd H q o) d a F c Q :=
  fun v H' e D kp t => k v H' e (D.mono fun b z => z.elim .inl fun z => .inr (NdefX.upd_none z)) (fun b o' e n nt => kp b o' (by rw [upd_ne (ne_of_none e hq)]; exact e) n nt) t
theorem FK.new {H : Hp} {F : Addr → Prop} {q : Addr} {o : HO} (h : FK F H) (hq : H q = none) : FK F (upd H q o) := fun b z => by
  rcases h b z with ⟨C, dx, fs, e⟩ | ⟨xs, e⟩
  · exact .inl ⟨C, dx, fs, by rw [upd_ne (ne_of_none e hq)]; exact e⟩
  · exact .inr ⟨xs, by rw [upd_ne (ne_of_none e hq)]; exact e⟩
def notWhy : Kp187.Call → Bool
  | .why _ => false
  | _ => true
def spNumber (K : PySem.W.Frag) (CD CI Pt : Addr) : Sp := fun vs H Q _ => ∃ (d : Addr) (a : Kp187.Abs) (F : Addr → Prop) (p : Addr) (wd : List Int) (x : Kp187.Call), vs = [.ref d, .ref p] ∧ W wd x ∧ notWhy x = true ∧ Desk CD CI H d a F ∧ FK F H ∧ Good a ∧ TabS H Pt lamQ ∧ SqL K H p (wd.map V.int) ∧ AfterN CD CI Pt H d a F x Q
theorem tst {H : Hp} {σ : L2.St} {p : Addr} {wd : List Int} {z c : Int} {Q : Bool → Hp → Prop} (hσ : σ[1]? = some (some (.ref p))) (hS : SqL K H p (wd.map V.int)) (h0 : wd[0]? = some z) (h : Q (decide (V.int z = V.int c)) H) :
    tTest (tOp rEq (tOp (rIxL K) (tVar 1) (tC (.int 0))) (tC (.int c))) σ H Q :=
  ⟨_, hσ, p, _, _, _, rfl, rfl, hS, atI_nat (j := 0) (ints_at h0), rfl, _, rfl, h⟩
theorem scNu : FnScope ["desk", "call"] ["desk", "call"] (defScope sNumberTold) := ⟨rfl, rfl, rfl, by decide +kernel, rfl, by decide +kernel, by decide +kernel⟩
theorem cut4 (k m : Nat) (row : List Nat) : cutV ((([2, (k : Int), (m : Int), (row.length : Int)] ++ row.map fun n : Nat => (n : Int)) : List Int).map V.int) (some 4) none = natsV row := by
  unfold cutV
  have e4 : HT.sIx ((([2, (k : Int), (m : Int), (row.length : Int)] ++ row.map fun n : Nat => (n : Int)) : List Int).map V.int).length 0 (some 4) = 4 := by
    have := HT.sIx_nat ((([2, (k : Int), (m : Int), (row.length : Int)] ++ row.map fun n : Nat => (n : Int)) : List Int).map V.int).length 0 4
    refine this.trans ?_
    rw [List.length_map, List.length_append]
    show min 4 (4 + _) = 4
    omega
  rw [e4]
  have ed : ((([2, (k : Int), (m : Int), (row.length : Int)] ++ row.map fun n : Nat => (n : Int)) : List Int).map V.int).drop 4 = (row.map fun n : Nat => (n : Int)).map V.int := rfl
  rw [ed, natsV_eq]
  apply List.take_of_length_le
  rw [HT.sIx_none]
  simp
theorem ok_number {f fS fGi fM fU fB fP fD fO Pt : Addr} {fd fdS fdGi fdM fdU fdB fdP fdD fdO : FuncData} (F : Fun K "number_told" "number_told" sNumberTold f fd) (T : Txt K mg CI CD)
    (GS : FnOk P w K mg base CX0 1 fS fdS ["self", "many"] (spErStart CD CI)) (bS : Binds K fdS ["self", "many"] []) (mS : Meth K CD "er_start" fS)
    (GG : FnOk P w K mg base CX0 3 fGi fdGi ["self", "person", "purposes", "until"] (spErGive CD CI)) (bGi : Binds K fdGi ["self", "person", "purposes", "until"] []) (mGi : Meth K CD "er_give" fGi)
    (GM : FnOk P w K mg base CX0 3 fM fdM ["self", "kind", "purposes", "of"] (spErMake K CD CI)) (bM : Binds K fdM ["self", "kind", "purposes", "of"] []) (mM : Meth K CD "er_make" fM)
    (GU : FnOk P w K mg base CX0 3 fU fdU ["self", "number", "purpose"] (spErUse CD CI)) (bU : Binds K fdU ["self", "number", "purpose"] []) (mU : Meth K CD "er_use" fU)
    (GB : FnOk P w K mg base CX0 4 fB fdB ["self", "number", "purposes"] (spErBack CD CI)) (bB : Binds K fdB ["self", "number", "purposes"] []) (mB : Meth K CD "er_back" fB)
    (GP : FnOk P w K mg base CX0 5 fP fdP ["self", "person"] (spErPerson CD CI)) (bP : Binds K fdP ["self", "person"] []) (mP : Meth K CD "er_person" fP)
    (GD : FnOk P w K mg base CX0 5 fD fdD ["self", "n"] (spErDays CD CI Pt)) (bD : Binds K fdD ["self", "n"] []) (mD : Meth K CD "er_days" fD)
    (GO : FnOk P w K mg base CX0 3 fO fdO ["self", "person"] (spErOf CD CI)) (bO : Binds K fdO ["self", "person"] []) (mO : Meth K CD "er_of" fO) :
    FnOk P w K mg base CX0 6 f fd ["desk", "call"] (spNumber K CD CI Pt) := by
  refine F.ok scNu (fun vs H Q E h => ?_) (fun cdv A outer s H vs Q E hr h => ?_)
  · obtain ⟨d, a, F, p, wd, x, rfl, _⟩ := h
    rfl
  · obtain ⟨d, a, F, p, wd, x, rfl, hW, hny, DD, hFK, G, hT, hS, k⟩ := h
    have r1 : Room 1 _ := hr.mono (by decide)
    have r3 : Room 3 _ := hr.mono (by decide)
    have r4 : Room 4 _ := hr.mono (by decide)
    refine ⟨_, pss_cons (ps_if (pt_cmpR op_eq (pe_ix ix_list (pv 1) pe_int (fun _ _ => rfl)) (pe_gi T.kSTART) (nomark _)) (pss_one (ps_ret (pe_meth (pv 0) T.clD mS GS r1 bS .nil pass0 (pa_cons (pe_ix ix_list (pv 1) pe_int (fun _ _ => rfl)) pa_nil)))) pss_nil)
      (pss_cons (ps_if (pt_cmpR op_eq (pe_ix ix_list (pv 1) pe_int (fun _ _ => rfl)) (pe_gi T.kGIVE) (nomark _)) (pss_one (ps_ret (pe_meth (pv 0) T.clD mGi GG r3 bGi .nil pass0 (pa_cons (pe_ix ix_list (pv 1) pe_int (fun _ _ => rfl)) (pa_cons (pe_ix ix_list (pv 1) pe_int (fun _ _ => rfl)) (pa_cons (pe_ix ix_list (pv 1) pe_int (fun _ _ => rfl)) pa_nil)))))) pss_nil)
      (pss_cons (ps_if (pt_cmpR op_eq (pe_ix ix_list (pv 1) pe_int (fun _ _ => rfl)) (pe_gi T.kMAKE) (nomark _)) (pss_one (ps_ret (pe_meth (pv 0) T.clD mM GM r3 bM .nil pass0 (pa_cons (pe_ix ix_list (pv 1) pe_int (fun _ _ => rfl)) (pa_cons (pe_ix ix_list (pv 1) pe_int (fun _ _ => rfl)) (pa_cons (pe_slice sl_list (pv 1) (po_some pe_int) po_none) pa_nil)))))) pss_nil)
      (pss_cons (ps_if (pt_cmpR op_eq (pe_ix ix_list (pv 1) pe_int (fun _ _ => rfl)) (pe_gi T.kUSE) (nomark _)) (pss_one (ps_ret (pe_meth (pv 0) T.clD mU GU r3 bU .nil pass0 (pa_cons (pe_ix ix_list (pv 1) pe_int (fun _ _ => rfl)) (pa_cons (pe_ix ix_list (pv 1) pe_int (fun _ _ => rfl)) pa_nil))))) pss_nil)
      (pss_cons (ps_if (pt_cmpR op_eq (pe_ix ix_list (pv 1) pe_int (fun _ _ => rfl)) (pe_gi T.kBACK) (nomark _)) (pss_one (ps_ret (pe_meth (pv 0) T.clD mB GB r4 bB .nil pass0 (pa_cons (pe_ix ix_list (pv 1) pe_int (fun _ _ => rfl)) (pa_cons (pe_ix ix_list (pv 1) pe_int (fun _ _ => rfl)) pa_nil))))) pss_nil)
      (pss_cons (ps_if (pt_cmpR op_eq (pe_ix ix_list (pv 1) pe_int (fun _ _ => rfl)) (pe_gi T.kPERS) (nomark _)) (pss_one (ps_ret (pe_meth (pv 0) T.clD mP GP hr bP .nil pass0 (pa_cons (pe_ix ix_list (pv 1) pe_int (fun _ _ => rfl)) pa_nil)))) pss_nil)
      (pss_cons (ps_if (pt_cmpR op_eq (pe_ix ix_list (pv 1) pe_int (fun _ _ => rfl)) (pe_gi T.kDAYS) (nomark _)) (pss_one (ps_ret (pe_meth (pv 0) T.clD mD GD hr bD .nil pass0 (pa_cons (pe_ix ix_list (pv 1) pe_int (fun _ _ => rfl)) pa_nil)))) pss_nil)
      (pss_one (ps_ret (pe_meth (pv 0) T.clD mO GO r3 bO .nil pass0 (pa_cons (pe_ix ix_list (pv 1) pe_int (fun _ _ => rfl)) pa_nil))))))))))  , ?_⟩
    obtain ⟨l, as, ls, D, hF⟩ := DD
    have DD : Desk CD CI H d a F := ⟨l, as, ls, D, hF⟩
    obtain ⟨dx, hd⟩ := D.obj
    have na : ∀ {m : Str}, (m == "many") = false → (m == "today") = false → (m == "kept") = false → (dF (a.many : Int) (a.today : Int) l).lookup m = none := fun {m} h1 h2 h3 => dF_no h1 h2 h3
    cases hW with
    | start m h =>
      refine tst rfl hS rfl (t_yes rfl ?_)
      exact ⟨_, rfl, d, dx, _, rfl, hd, na (by decide +kernel) (by decide +kernel) (by decide +kernel), _, rfl, p, _, _, _, rfl, rfl, hS, atI_nat (j := 1) rfl, d, a, F, m, rfl, DD, k.after hT hFK⟩
    | give p' m u h1 h2 h3 =>
      refine tst rfl hS rfl (t_no (by decide) ?_)
      refine tst rfl hS rfl (t_yes rfl ?_)
      exact ⟨_, rfl, d, dx, _, rfl, hd, na (by decide +kernel) (by decide +kernel) (by decide +kernel), _, rfl, p, _, _, _, rfl, rfl, hS, atI_nat (j := 1) rfl, _, rfl, p, _, _, _, rfl, rfl, hS, atI_nat (j := 2) rfl, _, rfl, p, _, _, _, rfl, rfl, hS, atI_nat (j := 3) rfl, d, a, F, p', m, u, rfl, DD, G.len, k.after hT hFK⟩
    | make kd m row h1 h2 h3 h4 h5 =>
      refine tst rfl hS rfl (t_no (by decide) ?_)
      refine tst rfl hS rfl (t_no (by decide) ?_)
      refine tst rfl hS rfl (t_yes rfl ?_)
      refine ⟨_, rfl, d, dx, _, rfl, hd, na (by decide +kernel) (by decide +kernel) (by decide +kernel), _, rfl, p, _, _, _, rfl, rfl, hS, atI_nat (j := 1) rfl, _, rfl, p, _, _, _, rfl, rfl, hS, atI_nat (j := 2) rfl, _, rfl, 4, rfl, p, _, rfl, hS, fun q hq => ?_⟩
      rw [cut4]
      exact ⟨d, a, F, kd, m, q, row, rfl, DD.same (Same.new hq), G, SqL.of upd_same, h3, (k.new hq).after (hT.ext (Same.new hq)) (hFK.new hq)⟩
    | use i p' h1 h2 =>
      refine tst rfl hS rfl (t_no (by decide) ?_)
      refine tst rfl hS rfl (t_no (by decide) ?_)
      refine tst rfl hS rfl (t_no (by decide) ?_)
      refine tst rfl hS rfl (t_yes rfl ?_)
      exact ⟨_, rfl, d, dx, _, rfl, hd, na (by decide +kernel) (by decide +kernel) (by decide +kernel), _, rfl, p, _, _, _, rfl, rfl, hS, atI_nat (j := 1) rfl, _, rfl, p, _, _, _, rfl, rfl, hS, atI_nat (j := 2) rfl, d, a, F, i, p', rfl, DD, k.after hT hFK⟩
    | back i m h1 h2 =>
      refine tst rfl hS rfl (t_no (by decide) ?_)
      refine tst rfl hS rfl (t_no (by decide) ?_)
      refine tst rfl hS rfl (t_no (by decide) ?_)
      refine tst rfl hS rfl (t_no (by decide) ?_)
      refine tst rfl hS rfl (t_yes rfl ?_)
      exact ⟨_, rfl, d, dx, _, rfl, hd, na (by decide +kernel) (by decide +kernel) (by decide +kernel), _, rfl, p, _, _, _, rfl, rfl, hS, atI_nat (j := 1) rfl, _, rfl, p, _, _, _, rfl, rfl, hS, atI_nat (j := 2) rfl, d, a, F, i, m, rfl, DD, G, k.after hT hFK⟩
    | person p' h =>
      refine tst rfl hS rfl (t_no (by decide) ?_)
      refine tst rfl hS rfl (t_no (by decide) ?_)
      refine tst rfl hS rfl (t_no (by decide) ?_)
      refine tst rfl hS rfl (t_no (by decide) ?_)
      refine tst rfl hS rfl (t_no (by decide) ?_)
      refine tst rfl hS rfl (t_yes rfl ?_)
      exact ⟨_, rfl, d, dx, _, rfl, hd, na (by decide +kernel) (by decide +kernel) (by decide +kernel), _, rfl, p, _, _, _, rfl, rfl, hS, atI_nat (j := 1) rfl, d, a, F, p', rfl, DD, G, k.after hT hFK⟩
    | days n h =>
      refine tst rfl hS rfl (t_no (by decide) ?_)
      refine tst rfl hS rfl (t_no (by decide) ?_)
      refine tst rfl hS rfl (t_no (by decide) ?_)
      refine tst rfl hS rfl (t_no (by decide) ?_)
      refine tst rfl hS rfl (t_no (by decide) ?_)
      refine tst rfl hS rfl (t_no (by decide) ?_)
      refine tst rfl hS rfl (t_yes rfl ?_)
      exact ⟨_, rfl, d, dx, _, rfl, hd, na (by decide +kernel) (by decide +kernel) (by decide +kernel), _, rfl, p, _, _, _, rfl, rfl, hS, atI_nat (j := 1) rfl, d, a, F, n, rfl, DD, G, hT, fun v H' e D' kp t => k v H' e (D'.mono fun b z => .inl z) kp t⟩
    | of p' h =>
      refine tst rfl hS rfl (t_no (by decide) ?_)
      refine tst rfl hS rfl (t_no (by decide) ?_)
      refine tst rfl hS rfl (t_no (by decide) ?_)
      refine tst rfl hS rfl (t_no (by decide) ?_)
      refine tst rfl hS rfl (t_no (by decide) ?_)
      refine tst rfl hS rfl (t_no (by decide) ?_)
      refine tst rfl hS rfl (t_no (by decide) ?_)
      exact ⟨_, rfl, d, dx, _, rfl, hd, na (by decide +kernel) (by decide +kernel) (by decide +kernel), _, rfl, p, _, _, _, rfl, rfl, hS, atI_nat (j := 1) rfl, d, a, F, p', rfl, DD, G, k.after hT hFK⟩
    | why i h => cases hny
end
end Er
set_option Elab.async false
set_option maxRecDepth 100000
set_option maxHeartbeats 4000000
set_option linter.unusedVariables false
set_option autoImplicit false
namespace Er
open PySem PySem.Spec PyProof.Rows L2
open LamX (CodeO TabS TabB ExtN codeO_ne)
theorem frzNT {o : Obj} {u : HO} (ps : Array Value) : HO.frz o u ≠ .tbl ps := fun z => by cases z
theorem ofSame {F : Addr → Prop} {H H' : Hp} (s : Same H H') : KeepsN F H H' := fun b o e _ _ => s b o e
section
variable {P : Program} {w : World} {K : PySem.W.Frag} {mg : Str → Option Value} {base : Heap} {CI CD : Addr}
/-- what is owned, no more -/
theorem Desk.exact {H : Hp} {d : Addr} {a : Kp187.Abs} {G : Addr → Prop} (D : Desk CD CI H d a G) : ∃ F : Addr → Prop, Desk CD CI H d a F ∧ FK F H ∧ ∀ b, F b → G b := by
  obtain ⟨l, as, ls, D, h1, h2, h3, h4⟩ := D
  have dec : ∀ b : Addr, Decidable (∃ xs, H b = some (.lst xs)) := fun b => Classical.propDecidable _
  have sub : ∀ b, b ∈ ls.filter (fun b => @decide (∃ xs, H b = some (.lst xs)) (dec b)) → b ∈ ls ∧ ∃ xs, H b = some (.lst xs) := fun b hb => by
    have := List.mem_filter.mp hb
    exact ⟨this.1, @of_decide_eq_true _ (dec b) this.2⟩
  refine ⟨fun b => b = d ∨ b = l ∨ b ∈ as ∨ b ∈ ls.filter (fun b => @decide (∃ xs, H b = some (.lst xs)) (dec b)), ⟨l, as, ls.filter (fun b => @decide (∃ xs, H b = some (.lst xs)) (dec b)), ⟨D.obj, D.kept, D.nd, D.len, D.sz, fun z => D.nl (sub _ z).1, D.nd2, fun j x hx => ?_⟩, .inl rfl, .inr (.inl rfl), fun b hb => .inr (.inr (.inl hb)), fun b hb => .inr (.inr (.inr hb))⟩, fun b hb => ?_, fun b hb => ?_⟩
  · obtain ⟨p, li, e1, e2, I⟩ := D.it j x hx
    obtain ⟨gs, hl, _⟩ := I.lst
    exact ⟨p, li, e1, List.mem_filter.mpr ⟨e2, @decide_eq_true _ (dec li) ⟨_, hl⟩⟩, I⟩
  · rcases hb with z | z | z | z
    · obtain ⟨dx, hd⟩ := D.obj
      exact .inl ⟨_, _, _, z ▸ hd⟩
    · exact .inr ⟨_, z ▸ D.kept⟩
    · exact .inl (D.as_ins z)
    · exact .inr (sub _ z).2
  · rcases hb with z | z | z | z
    · exact z ▸ h1
    · exact z ▸ h2
    · exact h3 b z
    · exact h4 b (sub _ z).1
theorem Desk.other {H : Hp} {d t : Addr} {o : HO} {a : Kp187.Abs} {F : Addr → Prop} (D : Desk CD CI H d a F) (nt : ¬ F t) : Desk CD CI (upd H t o) d a F := by
  obtain ⟨l, as, ls, D, h1, h2, h3, h4⟩ := D
  have ne : ∀ b, F b → b ≠ t := fun b hb z => nt (z ▸ hb)
  obtain ⟨⟨dx, k1⟩, k2, k3, k4, kz, k5, k6, k7⟩ := D
  refine ⟨l, as, ls, ⟨⟨dx, by rw [upd_ne (ne _ h1)]; exact k1⟩, by rw [upd_ne (ne _ h2)]; exact k2, k3, k4, kz, k5, k6, fun j x hx => ?_⟩, h1, h2, h3, h4⟩
  obtain ⟨p, li, e1, e2, ⟨⟨dx2, i1⟩, ⟨gs, i2, i3⟩, i4⟩⟩ := k7 j x hx
  exact ⟨p, li, e1, e2, ⟨dx2, by rw [upd_ne (ne _ (h3 p (List.mem_of_getElem? e1)))]; exact i1⟩, ⟨gs, by rw [upd_ne (ne _ (h4 li e2))]; exact i2, i3⟩, i4⟩
theorem FK.other {H : Hp} {F : Addr → Prop} {t : Addr} {o : HO} (h : FK F H) (nt : ¬ F t) : FK F (upd H t o) := fun b z => by
  have ne : b ≠ t := fun q => nt (q ▸ z)
  rw [upd_ne ne]
  exact h b z
theorem tab_lst {H : Hp} {Pt t : Addr} {q : Str} {xs : List V} {o : HO} (h : TabS H Pt q) (ht : H t = some (.lst xs)) : TabS (upd H t o) Pt q :=
  tab_keep h fun b o' e _ n => by
    have ne : b ≠ t := fun z => by
      rw [z, ht] at e
      exact n xs (Option.some.inj e).symm
    rw [upd_ne ne]
    exact e
/-! ### answer_to -/
def spAnswer (K : PySem.W.Frag) (CD CI Pt : Addr) : Sp := fun vs H Q _ => ∃ (d : Addr) (a : Kp187.Abs) (F : Addr → Prop) (p : Addr) (wd : List Int) (x : Kp187.Call), vs = [.ref d, .ref p] ∧ W wd x ∧ Desk CD CI H d a F ∧ FK F H ∧ Good a ∧ TabS H Pt lamQ ∧ SqL K H p (wd.map V.int) ∧
  ∀ (H' : Hp) (q : Addr), Desk CD CI H' d (Kp187.act a x).1 (fun b => F b ∨ H b = none) → KeepsN F H H' → TabS H' Pt lamQ → (∀ b o, H b = some o → ¬ F b → (∀ ps, o ≠ .tbl ps) → b ≠ q) → H' q = some (.lst ((ansL (Kp187.act a x).2).map V.int)) → Q (.ref q) H'
theorem scAn : FnScope ["desk", "call"] ["desk", "call"] (defScope sAnswerTo) := ⟨rfl, rfl, rfl, by decide +kernel, rfl, by decide +kernel, by decide +kernel⟩
theorem ok_answer {f fN fY Pt : Addr} {fd fdN fdY : FuncData} (F : Fun K "answer_to" "answer_to" sAnswerTo f fd) (T : Txt K mg CI CD)
    (GN : FnOk P w K mg base CX0 6 fN fdN ["desk", "call"] (spNumber K CD CI Pt)) (bN : Binds K fdN ["desk", "call"] []) (gN : mg "number_told" = some (.ref fN)) (kN : PySem.W.keepIn K (.ref fN) = true)
    (GY : FnOk P w K mg base CX0 2 fY fdY ["self", "number"] (spErWhy CD CI)) (bY : Binds K fdY ["self", "number"] []) (mY : Meth K CD "er_why" fY) :
    FnOk P w K mg base CX0 7 f fd ["desk", "call"] (spAnswer K CD CI Pt) := by
  refine F.ok scAn (fun vs H Q E h => ?_) (fun cdv A outer s H vs Q E hr h => ?_)
  · obtain ⟨d, a, F, p, wd, x, rfl, _⟩ := h
    rfl
  · obtain ⟨d, a, F, p, wd, x, rfl, hW, DD, hFK, G, hT, hS, k⟩ := h
    have r2 : Room 2 _ := hr.mono (by decide)
    refine ⟨_, pss_cons (ps_if (pt_cmpR op_eq (pe_ix ix_list (pv 1) pe_int (fun _ _ => rfl)) (pe_gi T.kWHY) (nomark _)) (pss_one (ps_ret (pe_meth (pv 0) T.clD mY GY r2 bY .nil pass0 (pa_cons (pe_ix ix_list (pv 1) pe_int (fun _ _ => rfl)) pa_nil)))) pss_nil)
      (pss_one (ps_ret (pe_lst (pa_cons (pe_gi T.kFORM) (pa_cons (pe_call GN hr rfl gN kN bN .nil pass0 (pa_cons (pv 0) (pa_cons (pv 1) pa_nil))) pa_nil))))), ?_⟩
    obtain ⟨l, as, ls, D, hF⟩ := DD
    have DD : Desk CD CI H d a F := ⟨l, as, ls, D, hF⟩
    obtain ⟨dx, hd⟩ := D.obj
    have num : notWhy x = true → AfterN CD CI Pt H d a F x fun y H1 => 2 ≤ sizeLine ∧ ∀ q, H1 q = none → Q (.ref q) (upd H1 q (.lst [.int 0, y])) := fun _ v H1 e D1 k1 t1 => by
      refine ⟨by decide, fun q hq => k _ q (D1.same (Same.new hq)) (fun b o e' n nt => Same.new hq b o (k1 b o e' n nt)) (t1.ext (Same.new hq)) (fun b o e' n nt => ne_of_none (k1 b o e' n nt) hq) ?_⟩
      rw [upd_same, e]
      rfl
    cases hW with
    | why i h =>
      refine tst rfl hS rfl (t_yes rfl ?_)
      refine ⟨_, rfl, d, dx, _, rfl, hd, dF_no (by decide +kernel) (by decide +kernel) (by decide +kernel), _, rfl, p, _, _, _, rfl, rfl, hS, atI_nat (j := 1) rfl, d, a, F, i, rfl, DD, fun H' q s' nq hq => ?_⟩
      exact k H' q ((DD.same s').mono fun b z => .inl z) (ofSame s') (hT.ext s') (fun b o e _ _ => ne_of_none e nq) hq
    | start m h =>
      refine tst rfl hS rfl (t_no (by decide) ?_)
      exact ⟨_, rfl, _, rfl, d, a, F, p, _, _, rfl, W.start m h, rfl, DD, hFK, G, hT, hS, num rfl⟩
    | give p' m u h1 h2 h3 =>
      refine tst rfl hS rfl (t_no (by decide) ?_)
      exact ⟨_, rfl, _, rfl, d, a, F, p, _, _, rfl, W.give p' m u h1 h2 h3, rfl, DD, hFK, G, hT, hS, num rfl⟩
    | make kd m row h1 h2 h3 h4 h5 =>
      refine tst rfl hS rfl (t_no (by decide) ?_)
      exact ⟨_, rfl, _, rfl, d, a, F, p, _, _, rfl, W.make kd m row h1 h2 h3 h4 h5, rfl, DD, hFK, G, hT, hS, num rfl⟩
    | use i p' h1 h2 =>
      refine tst rfl hS rfl (t_no (by decide) ?_)
      exact ⟨_, rfl, _, rfl, d, a, F, p, _, _, rfl, W.use i p' h1 h2, rfl, DD, hFK, G, hT, hS, num rfl⟩
    | back i m h1 h2 =>
      refine tst rfl hS rfl (t_no (by decide) ?_)
      exact ⟨_, rfl, _, rfl, d, a, F, p, _, _, rfl, W.back i m h1 h2, rfl, DD, hFK, G, hT, hS, num rfl⟩
    | person p' h =>
      refine tst rfl hS rfl (t_no (by decide) ?_)
      exact ⟨_, rfl, _, rfl, d, a, F, p, _, _, rfl, W.person p' h, rfl, DD, hFK, G, hT, hS, num rfl⟩
    | days n h =>
      refine tst rfl hS rfl (t_no (by decide) ?_)
      exact ⟨_, rfl, _, rfl, d, a, F, p, _, _, rfl, W.days n h, rfl, DD, hFK, G, hT, hS, num rfl⟩
    | of p' h =>
      refine tst rfl hS rfl (t_no (by decide) ?_)
      exact ⟨_, rfl, _, rfl, d, a, F, p, _, _, rfl, W.of p' h, rfl, DD, hFK, G, hT, hS, num rfl⟩
/-! ### answers -/
theorem cut_call {ns wd : List Int} {b : Nat} (hd : ns.drop b = wd ++ ns.drop (b + wd.length)) (hb : b + wd.length ≤ ns.length) : cutV (ns.map V.int) (some (b : Int)) (some ((b + wd.length : Nat) : Int)) = wd.map V.int := by
  unfold cutV
  rw [HT.sIx_nat, HT.sIx_nat, List.length_map]
  have e1 : min b ns.length = b := by omega
  have e2 : min (b + wd.length) ns.length = b + wd.length := by omega
  rw [e1, e2, ← List.map_drop, hd, ← List.map_take]
  congr 1
  have e3 : b + wd.length - b = wd.length := by omega
  rw [e3, List.take_left]
def spAns (K : PySem.W.Frag) (Pt : Addr) : Sp := fun vs H Q _ => ∃ (a : Addr) (ns : List Int), vs = [.ref a] ∧ SqL K H a (ns.map V.int) ∧ ns.length ≤ 16000 ∧ PyKp187.answers_asked ns = true ∧ H Pt = some (.tbl #[]) ∧ ∀ (H' : Hp) (p : Addr), H' p = some (.lst ((PyKp187.answers ns).map V.int)) → Q (.ref p) H'
/-- the list handed in, as long as the walk goes -/
def Held (K : PySem.W.Frag) (p0 tl : Addr) (xs : List V) (F : Addr → Prop) (H : Hp) : Prop := (∀ H, SqL K H p0 xs) ∨ ((∃ o, H p0 = some o ∧ (∀ ps, o ≠ .tbl ps) ∧ (∀ H', H' p0 = some o → SqL K H' p0 xs)) ∧ ¬ F p0 ∧ p0 ≠ tl)
theorem Held.sq {p0 tl : Addr} {xs : List V} {F : Addr → Prop} {H : Hp} (h : Held K p0 tl xs F H) : SqL K H p0 xs := by
  rcases h with h | ⟨⟨o, e, _, q⟩, _⟩
  · exact h H
  · exact q H e
def begOf (ns : List Int) : L2.St → Nat
  | [_, _, _, some (.int b), _, _] => ns.length - b.toNat
  | _ => 0
theorem scAs : FnScope ["calls", "desk", "told", "begin", "end", "answer"] ["calls"] (defScope sAnswers) := ⟨rfl, rfl, rfl, by decide +kernel, rfl, by decide +kernel, by decide +kernel⟩
theorem ok_answers {f fI fE fA Pt : Addr} {fd fdI fdE fdA : FuncData} (F : Fun K "answers" "answers" sAnswers f fd) (T : Txt K mg CI CD)
    (GI : FnOk P w K mg base CX0 1 fI fdI ["self"] (spDeskInit CD CI)) (bI : Binds K fdI ["self"] []) (MD : Mk K CD fI)
    (GE : FnOk P w K mg base CX0 1 fE fdE ["calls", "begin"] (spEnd K)) (bE : Binds K fdE ["calls", "begin"] []) (gE : mg "end_of_call" = some (.ref fE)) (kE : PySem.W.keepIn K (.ref fE) = true)
    (GA : FnOk P w K mg base CX0 7 fA fdA ["desk", "call"] (spAnswer K CD CI Pt)) (bA : Binds K fdA ["desk", "call"] []) (gA : mg "answer_to" = some (.ref fA)) (kA : PySem.W.keepIn K (.ref fA) = true) :
    FnOk P w K mg base CX0 8 f fd ["calls"] (spAns K Pt) := by
  refine F.ok scAs (fun vs H Q E h => ?_) (fun cdv A outer s H vs Q E hr h => ?_)
  · obtain ⟨a, ns, rfl, _⟩ := h
    rfl
  · obtain ⟨p0, ns, rfl, hS, h16, ask, hPt, k⟩ := h
    have r1 : Room 1 _ := hr.mono (by decide)
    have r2 : Room 2 _ := hr.mono (by decide)
    refine ⟨_, pss_cons (ps_set (i := 1) scAs.nd rfl (Or.inl rfl) (pe_make0 MD GI r2 rfl T.gD bI .nil pass0))
      (pss_cons (ps_set (i := 2) scAs.nd rfl (Or.inl rfl) (pe_lst pa_nil))
      (pss_cons (ps_set (i := 3) scAs.nd rfl (Or.inl rfl) pe_int)
      (pss_cons (ps_while PassesOwn.never (pt_cmpR op_lt (pv 3) (pe_callB call_len_seq (by rfl) T.bLen PySem.boot_len (pa_cons (pv 0) pa_nil)) (nomark _))
        (pss_cons (ps_set (i := 4) scAs.nd rfl (Or.inl rfl) (pe_call GE r1 rfl gE kE bE .nil pass0 (pa_cons (pv 0) (pa_cons (pv 3) pa_nil))))
        (pss_cons (ps_set (i := 5) scAs.nd rfl (Or.inl rfl) (pe_call GA hr rfl gA kA bA .nil pass0 (pa_cons (pv 1) (pa_cons (pe_slice sl_list (pv 0) (po_some (pv 3)) (po_some (pv 4))) pa_nil))))
        (pss_cons (ps_expr (pe_bm PySem.F.plainAttrs_list PySem.F.slot_list_append PySem.F.type_list_append mt_append (pv 2) (pa_cons (pe_callB call_len_seq (by rfl) T.bLen PySem.boot_len (pa_cons (pv 5) pa_nil)) pa_nil)))
        (pss_cons (ps_expr (pe_bm PySem.F.plainAttrs_list PySem.F.slot_list_extend PySem.F.type_list_extend mt_extend (pv 2) (pa_cons (pv 5) pa_nil)))
        (pss_one (ps_set (i := 3) scAs.nd rfl (Or.inl rfl) (pv 4))))))))
      (pss_one (ps_ret (pv 2)))))), ?_⟩
    intro d dx nd ndx ned
    refine ⟨d, dx, rfl, upd_same, fun H1 l1 nl1 D1 kp1 => ⟨rfl, ?_⟩⟩
    have s1 : Same H H1 := Same.made nd ndx kp1
    have nl : H l1 = none := by
      have h1 := nl1
      have h2 := NdefX.upd_none (NdefX.upd_none h1)
      exact h2
    have D1' : Desk CD CI H1 d Kp187Neutral.dummy (fun b => H b = none) := ⟨l1, [], [], D1, nd, nl, fun b z => (List.not_mem_nil z).elim, fun b z => (List.not_mem_nil z).elim⟩
    refine ⟨Nat.zero_le _, fun tl htl => ?_⟩
    have s2 : Same H (upd H1 tl (.lst [])) := s1.trans (Same.new htl)
    have ntl : H tl = none := s1.free htl
    obtain ⟨F0, E0', fk0, sub0⟩ := (D1'.exact)
    have nF0 : ¬ F0 tl := fun z => by
      rcases fk0 tl z with ⟨_, _, _, e⟩ | ⟨_, e⟩
      · rw [htl] at e; cases e
      · rw [htl] at e; cases e
    have held0 : Held K p0 tl (ns.map V.int) F0 (upd H1 tl (.lst [])) := by
      have side : ∀ {o : HO}, H p0 = some o → ¬ F0 p0 ∧ p0 ≠ tl := fun {o} e => by
        refine ⟨fun z => ?_, fun z => ?_⟩
        · have := sub0 p0 z
          rw [e] at this
          cases this
        · rw [z, ntl] at e
          cases e
      rcases hS with (h | ⟨o, h⟩) | h
      · exact .inr ⟨⟨_, s2 _ _ h, lstNT, fun H' e => .inl (.inl e)⟩, side h⟩
      · exact .inr ⟨⟨_, s2 _ _ h, frzNT, fun H' e => .inl (.inr ⟨o, e⟩)⟩, side h⟩
      · exact .inl fun H' => .inr h
    refine while_by (fun σ H' => ∃ (b : Nat) (a : Kp187.Abs) (out : List Int) (F : Addr → Prop) (v4 v5 : Option V), σ = [some (.ref p0), some (.ref d), some (.ref tl), some (.int (b : Int)), v4, v5] ∧ Here ns b a out ∧ Good a ∧ Desk CD CI H' d a F ∧ FK F H' ∧ TabS H' Pt lamQ ∧ H' tl = some (.lst (out.map V.int)) ∧ ¬ F tl ∧ Held K p0 tl (ns.map V.int) F H')
      (fun σ _ => begOf ns σ) ⟨0, _, [], F0, none, none, rfl, here_start ask, good_dummy, E0'.same (Same.new htl), fk0.new htl, (LamX.TabS.nil (s2 _ _ hPt)), upd_same, nF0, held0⟩ ?_ ?_
    · rintro σ H' ⟨b, a, out, F, v4, v5, rfl, hh, G, DD, fk, hT, ht, nF, hold⟩
      refine ⟨_, rfl, _, rfl, p0, _, rfl, .inl hold.sq, _, _, rfl, rfl, _, rfl, ?_⟩
      rw [List.length_map]
      refine ite2 (fun c => ?_) (fun c => ?_)
      · have hb : b < ns.length := by
          have := of_decide_eq_true c
          omega
        obtain ⟨wd, x, hW, hd, hle, ho, hnx⟩ := here_step hh hb
        refine ⟨_, rfl, _, rfl, p0, ns, b, wd, x, rfl, hold.sq, hW, hd, ?_⟩
        refine ⟨_, rfl, _, rfl, _, rfl, _, rfl, _, rfl, _, rfl, p0, _, rfl, hold.sq, fun q hq => ?_⟩
        rw [cut_call hd hle]
        have htl1 : upd H' q (.lst (wd.map V.int)) tl = some (.lst (out.map V.int)) := Same.new hq _ _ ht
        refine ⟨d, a, F, q, wd, x, rfl, hW, DD.same (Same.new hq), fk.new hq, G, hT.ext (Same.new hq), SqL.of upd_same, fun H2 q2 D2 k2 t2 nq2 hq2 => ?_⟩
        have htl2 := k2 tl _ htl1 nF lstNT
        have tlq : tl ≠ q2 := nq2 tl _ htl1 nF lstNT
        obtain ⟨F', D', fk', sub'⟩ := D2.exact
        have nF' : ¬ F' tl := fun z => by
          rcases sub' tl z with y | y
          · exact nF y
          · rw [htl1] at y
            cases y
        have lw : 0 < wd.length := by
          obtain ⟨c0, n0, h0, _⟩ := hW.head
          exact (List.getElem?_eq_some_iff.mp h0).1
        have la : ((ansL (Kp187.act a x).2).map V.int).length ≤ 5 := by
          rw [List.length_map, ansL_eq]
          have := tell_len (Kp187.act a x).2
          unfold tell at this
          rw [List.length_cons] at this
          omega
        have lo : (out.map V.int).length + 6 ≤ 18000 := by rw [List.length_map]; exact ho
        refine ⟨_, rfl, .inl ⟨rfl, _, SqL.of htl2⟩, _, rfl, q2, _, rfl, .inl (SqL.of hq2), tl, _, _, rfl, rfl, htl2, Nat.lt_of_lt_of_le (m := 18000) (by omega) (by decide), ?_⟩
        refine ⟨_, rfl, .inl ⟨rfl, _, SqL.of upd_same⟩, _, rfl, tl, q2, _, _, rfl, rfl, upd_same, by rw [upd_ne (Ne.symm tlq)]; exact hq2, Nat.le_trans (m := 18000) (by rw [List.length_append]; show _ + 1 + _ ≤ _; omega) (by decide), ?_⟩
        rw [upd_upd]
        refine ⟨_, rfl, ⟨b + wd.length, (Kp187.act a x).1, out ++ tell (Kp187.act a x).2, F', some (.int ((b + wd.length : Nat) : Int)), some (.ref q2), rfl, hnx, good_act G x, D'.other nF', fk'.other nF', tab_lst t2 htl2, ?_, nF', ?_⟩, ?_⟩
        · rw [upd_same]
          congr 2
          rw [List.map_append, List.append_assoc]
          congr 1
          rw [List.length_map, ansL_eq]
          rfl
        · rcases hold with y | ⟨⟨o, e, nt, qf⟩, nFp, ne⟩
          · exact .inl y
          · have e1 := Same.new (o := .lst (wd.map V.int)) hq _ _ e
            refine .inr ⟨⟨o, by rw [upd_ne ne]; exact k2 _ _ e1 nFp nt, nt, qf⟩, fun z => ?_, ne⟩
            rcases sub' p0 z with y | y
            · exact nFp y
            · rw [e1] at y
              cases y
        · show ns.length - Int.toNat ((b + wd.length : Nat) : Int) < ns.length - Int.toNat (b : Int)
          rw [Int.toNat_natCast, Int.toNat_natCast]
          omega
      · have hb : ns.length ≤ b := by
          rw [decide_eq_true_eq] at c
          omega
        refine ⟨_, rfl, k H' tl ?_⟩
        rw [← here_end hh hb]
        exact ht
    · rintro σ H' Q1 Q2 h ⟨v, hv, u, hu, p, xs, e, hs, i, j, e1, e2, kk, e3, q⟩
      exact ⟨v, hv, u, hu, p, xs, e, hs, i, j, e1, e2, kk, e3, h _ _ q⟩
end
end Er
set_option Elab.async false
set_option maxRecDepth 100000
set_option maxHeartbeats 4000000
set_option linter.unusedVariables false
set_option autoImplicit false
namespace Er
open PySem PySem.Spec PyProof.Rows L2
open PySem.W (Codec)
open LamX (TabS TabB)
/-- a def as the top has left it -/
def Stands (K : PySem.W.Frag) (x qual : Str) (st : Stmt) (f : Addr) : Prop := ∃ (oc : Value) (od : Option Addr) (sl : Array (Option Value)) (kV dc pm : Value) (an : Option Addr) (cd ct : Value),
  K.lookup f = some ⟨oc, od, .func (PySem.W.fnOf x qual (defArgs st) (defBody st) (defScope st) .none kV dc pm an cd ct), sl⟩ ∧ PySem.W.codeIn K cd qual = true ∧ PySem.W.keepIn K (.ref f) = true
theorem stands_mk {K : PySem.W.Frag} {x qual : Str} {st : Stmt} {f : Addr} {oc : Value} {od an : Option Addr} {sl : Array (Option Value)} {kV dc pm cd ct : Value}
    (l : K.lookup f = some ⟨oc, od, .func (PySem.W.fnOf x qual (defArgs st) (defBody st) (defScope st) .none kV dc pm an cd ct), sl⟩) (c : PySem.W.codeIn K cd qual = true) (k : PySem.W.keepIn K (.ref f) = true) : Stands K x qual st f := ⟨oc, od, sl, kV, dc, pm, an, cd, ct, l, c, k⟩
theorem Stands.fn {K : PySem.W.Frag} {x qual : Str} {st : Stmt} {f : Addr} (h : Stands K x qual st f) : ∃ fd, Fun K x qual st f fd := by
  obtain ⟨oc, od, sl, kV, dc, pm, an, cd, ct, l, c, k⟩ := h
  exact ⟨_, fun_mk l c k⟩
/-- .. and its code object -/
def StandsC (K : PySem.W.Frag) (x qual : Str) (st : Stmt) (f c : Addr) : Prop := ∃ (oc : Value) (od : Option Addr) (sl : Array (Option Value)) (kV dc pm : Value) (an : Option Addr) (ct : Value),
  K.lookup f = some ⟨oc, od, .func (PySem.W.fnOf x qual (defArgs st) (defBody st) (defScope st) .none kV dc pm an (.ref c) ct), sl⟩ ∧ PySem.W.codeIn K (.ref c) qual = true ∧ PySem.W.keepIn K (.ref f) = true
theorem standsC_mk {K : PySem.W.Frag} {x qual : Str} {st : Stmt} {f c : Addr} {oc : Value} {od an : Option Addr} {sl : Array (Option Value)} {kV dc pm ct : Value}
    (l : K.lookup f = some ⟨oc, od, .func (PySem.W.fnOf x qual (defArgs st) (defBody st) (defScope st) .none kV dc pm an (.ref c) ct), sl⟩) (cc : PySem.W.codeIn K (.ref c) qual = true) (k : PySem.W.keepIn K (.ref f) = true) : StandsC K x qual st f c := ⟨oc, od, sl, kV, dc, pm, an, ct, l, cc, k⟩
theorem StandsC.fn {K : PySem.W.Frag} {x qual : Str} {st : Stmt} {f c : Addr} (h : StandsC K x qual st f c) : ∃ fd, FunC K x qual st f fd c := by
  obtain ⟨oc, od, sl, kV, dc, pm, an, ct, l, cc, k⟩ := h
  exact ⟨_, ⟨oc, od, kV, dc, pm, an, ct, sl, rfl, l, cc⟩, k⟩
theorem int_mk {K : PySem.W.Frag} {x : Str} {i : Int} {t : Nat} (h : PySem.W.nsIn K mainGlobals x = some (some (.int i t))) : ∃ t, PySem.W.nsIn K mainGlobals x = some (some (.int i t)) := ⟨t, h⟩
theorem tup_mk {K : PySem.W.Frag} {aN : Addr} {od : Option Addr} {n : Nat} {sl : Array (Option Value)} {t1 t2 t3 t4 t5 t6 t7 t8 t9 : Nat}
    (h : K.lookup aN = some ⟨.type "tuple", od, .seq #[.int 1 t1, .int 3 t2, .int 2 t3, .int 2 t4, .int 2 t5, .int 1 t6, .int 1 t7, .int 1 t8, .int 1 t9] n, sl⟩) : ∀ H, SqT K H aN (nums.map V.int) := fun H =>
  .inr ⟨_, _, _, h, rfl, rfl, by show 9 ≤ sizeLine; decide, .cons ⟨_, rfl⟩ (.cons ⟨_, rfl⟩ (.cons ⟨_, rfl⟩ (.cons ⟨_, rfl⟩ (.cons ⟨_, rfl⟩ (.cons ⟨_, rfl⟩ (.cons ⟨_, rfl⟩ (.cons ⟨_, rfl⟩ (.cons ⟨_, rfl⟩ .nil))))))))⟩
/-- what the top has written of a class -/
structure ClsIn (K : PySem.W.Frag) (C : Addr) : Prop where
  pg : PySem.W.plainGet K C Str.empty = true
  hd : PySem.W.hasDictIn K C = true
  po : PySem.W.plainOver K C = true
  sa : PySem.W.findIn K (.ref C) "__setattr__" = some (some (.builtin "object.__setattr__"))
  mks : PySem.W.makesIn K C = true
  kc : PySem.W.keepIn K (.ref C) = true
structure MethIn (K : PySem.W.Frag) (C : Addr) (x : Str) (f : Addr) : Prop where
  fi : PySem.W.findIn K (.ref C) x = some (some (.ref f))
  is : PySem.W.isFn K (.ref f) = true

structure All (K : PySem.W.Frag) (CI CD aN c fII fIG fIE fHA fLO fER fDI fST fGI fMA fUS fBA fPE fDA fOF fWY fFU fTH fAT fAW fGT fOV fEA fKE fIM fPO fAP fPA fEN fNU fAN fAS : Addr) : Prop where
  aI : PySem.W.nsIn K mainGlobals "Item" = some (some (.ref CI))
  aD : PySem.W.nsIn K mainGlobals "Desk" = some (some (.ref CD))
  cI : ClsIn K CI
  cD : ClsIn K CD
  mII : MethIn K CI "__init__" fII
  sII : Stands K "__init__" "Item.__init__" sItemInit fII
  mIG : MethIn K CI "is_given" fIG
  sIG : Stands K "is_given" "Item.is_given" sIsGiven fIG
  mIE : MethIn K CI "is_erased" fIE
  sIE : Stands K "is_erased" "Item.is_erased" sIsErased fIE
  mHA : MethIn K CI "has_all" fHA
  sHA : Stands K "has_all" "Item.has_all" sHasAll fHA
  mLO : MethIn K CI "lose" fLO
  sLO : Stands K "lose" "Item.lose" sLose fLO
  mER : MethIn K CI "erase" fER
  sER : Stands K "erase" "Item.erase" sErase fER
  mDI : MethIn K CD "__init__" fDI
  sDI : Stands K "__init__" "Desk.__init__" sDeskInit fDI
  mST : MethIn K CD "er_start" fST
  sST : Stands K "er_start" "Desk.er_start" sErStart fST
  mGI : MethIn K CD "er_give" fGI
  sGI : Stands K "er_give" "Desk.er_give" sErGive fGI
  mMA : MethIn K CD "er_make" fMA
  sMA : Stands K "er_make" "Desk.er_make" sErMake fMA
  mUS : MethIn K CD "er_use" fUS
  sUS : Stands K "er_use" "Desk.er_use" sErUse fUS
  mBA : MethIn K CD "er_back" fBA
  sBA : Stands K "er_back" "Desk.er_back" sErBack fBA
  mPE : MethIn K CD "er_person" fPE
  sPE : Stands K "er_person" "Desk.er_person" sErPerson fPE
  mDA : MethIn K CD "er_days" fDA
  sDA : Stands K "er_days" "Desk.er_days" sErDays fDA
  mOF : MethIn K CD "er_of" fOF
  sOF : Stands K "er_of" "Desk.er_of" sErOf fOF
  mWY : MethIn K CD "er_why" fWY
  sWY : Stands K "er_why" "Desk.er_why" sErWhy fWY
  mFU : MethIn K CD "is_full" fFU
  sFU : Stands K "is_full" "Desk.is_full" sIsFull fFU
  mTH : MethIn K CD "is_there" fTH
  sTH : Stands K "is_there" "Desk.is_there" sIsThere fTH
  mAT : MethIn K CD "all_there" fAT
  sAT : Stands K "all_there" "Desk.all_there" sAllThere fAT
  mAW : MethIn K CD "all_with" fAW
  sAW : Stands K "all_with" "Desk.all_with" sAllWith fAW
  mGT : MethIn K CD "given_there" fGT
  sGT : Stands K "given_there" "Desk.given_there" sGivenThere fGT
  mOV : MethIn K CD "over_by_now" fOV
  sOV : StandsC K "over_by_now" "Desk.over_by_now" sOverByNow fOV c
  mEA : MethIn K CD "erase_all_with" fEA
  sEA : Stands K "erase_all_with" "Desk.erase_all_with" sEraseAllWith fEA
  mKE : MethIn K CD "keep" fKE
  sKE : Stands K "keep" "Desk.keep" sKeep fKE
  mIM : MethIn K CD "inside_made" fIM
  sIM : Stands K "inside_made" "Desk.inside_made" sInsideMade fIM
  mPO : MethIn K CD "people_of" fPO
  sPO : Stands K "people_of" "Desk.people_of" sPeopleOf fPO
  aAP : PySem.W.nsIn K mainGlobals "are_purposes" = some (some (.ref fAP))
  sAP : Stands K "are_purposes" "are_purposes" sArePurposes fAP
  aPA : PySem.W.nsIn K mainGlobals "are_parts" = some (some (.ref fPA))
  sPA : Stands K "are_parts" "are_parts" sAreParts fPA
  aEN : PySem.W.nsIn K mainGlobals "end_of_call" = some (some (.ref fEN))
  sEN : Stands K "end_of_call" "end_of_call" sEndOfCall fEN
  aNU : PySem.W.nsIn K mainGlobals "number_told" = some (some (.ref fNU))
  sNU : Stands K "number_told" "number_told" sNumberTold fNU
  aAN : PySem.W.nsIn K mainGlobals "answer_to" = some (some (.ref fAN))
  sAN : Stands K "answer_to" "answer_to" sAnswerTo fAN
  aAS : PySem.W.nsIn K mainGlobals "answers" = some (some (.ref fAS))
  sAS : Stands K "answers" "answers" sAnswers fAS
  aNum : PySem.W.nsIn K mainGlobals "NUMBERS_OF_CALL" = some (some (.ref aN))
  tNum : ∀ H, SqT K H aN (nums.map V.int)
  nPerson : PySem.W.findIn K (.ref CI) "person" = some none
  nPurposes : PySem.W.findIn K (.ref CI) "purposes" = some none
  nUntil : PySem.W.findIn K (.ref CI) "until" = some none
  nInside : PySem.W.findIn K (.ref CI) "inside" = some none
  nWhy : PySem.W.findIn K (.ref CI) "why" = some none
  nBy : PySem.W.findIn K (.ref CI) "by" = some none
  nDay : PySem.W.findIn K (.ref CI) "day" = some none
  nMany : PySem.W.findIn K (.ref CD) "many" = some none
  nToday : PySem.W.findIn K (.ref CD) "today" = some none
  nKept : PySem.W.findIn K (.ref CD) "kept" = some none
  kABSENT : ∃ t, PySem.W.nsIn K mainGlobals "ABSENT" = some (some (.int 2 t))
  kDENIED : ∃ t, PySem.W.nsIn K mainGlobals "DENIED" = some (some (.int 13 t))
  kWRONG : ∃ t, PySem.W.nsIn K mainGlobals "WRONG" = some (some (.int 22 t))
  kFULL : ∃ t, PySem.W.nsIn K mainGlobals "FULL" = some (some (.int 28 t))
  kSTART : ∃ t, PySem.W.nsIn K mainGlobals "ER_START" = some (some (.int 0 t))
  kGIVE : ∃ t, PySem.W.nsIn K mainGlobals "ER_GIVE" = some (some (.int 1 t))
  kMAKE : ∃ t, PySem.W.nsIn K mainGlobals "ER_MAKE" = some (some (.int 2 t))
  kUSE : ∃ t, PySem.W.nsIn K mainGlobals "ER_USE" = some (some (.int 3 t))
  kBACK : ∃ t, PySem.W.nsIn K mainGlobals "ER_BACK" = some (some (.int 4 t))
  kPERS : ∃ t, PySem.W.nsIn K mainGlobals "ER_PERSON" = some (some (.int 5 t))
  kDAYS : ∃ t, PySem.W.nsIn K mainGlobals "ER_DAYS" = some (some (.int 6 t))
  kWHY : ∃ t, PySem.W.nsIn K mainGlobals "ER_WHY" = some (some (.int 8 t))
  kLEAST : ∃ t, PySem.W.nsIn K mainGlobals "LEAST_MANY" = some (some (.int 2 t))
  kMOST : ∃ t, PySem.W.nsIn K mainGlobals "MOST_MANY" = some (some (.int 64 t))
  kPERSON : ∃ t, PySem.W.nsIn K mainGlobals "LAST_PERSON" = some (some (.int 63 t))
  kPURPOSE : ∃ t, PySem.W.nsIn K mainGlobals "LAST_PURPOSE" = some (some (.int 15 t))
  kALL : ∃ t, PySem.W.nsIn K mainGlobals "ALL_PURPOSES" = some (some (.int 65535 t))
  kDAY : ∃ t, PySem.W.nsIn K mainGlobals "LAST_DAY" = some (some (.int 100000 t))
  kMDAYS : ∃ t, PySem.W.nsIn K mainGlobals "MOST_DAYS" = some (some (.int 366 t))
  kITEMS : ∃ t, PySem.W.nsIn K mainGlobals "MOST_ITEMS" = some (some (.int 128 t))
  kPARTS : ∃ t, PySem.W.nsIn K mainGlobals "MOST_PARTS" = some (some (.int 8 t))
  kPLAIN : ∃ t, PySem.W.nsIn K mainGlobals "PLAIN" = some (some (.int 0 t))
  kCOUNTED : ∃ t, PySem.W.nsIn K mainGlobals "COUNTED" = some (some (.int 1 t))
  kFORM : ∃ t, PySem.W.nsIn K mainGlobals "NUMBER_FORM" = some (some (.int 0 t))
  kWFORM : ∃ t, PySem.W.nsIn K mainGlobals "WHY_FORM" = some (some (.int 1 t))
  kNOTE : ∃ t, PySem.W.nsIn K mainGlobals "NOT_ERASED" = some (some (.int 0 t))
  kNOP : ∃ t, PySem.W.nsIn K mainGlobals "NO_PURPOSES" = some (some (.int 1 t))
  kTAKEN : ∃ t, PySem.W.nsIn K mainGlobals "ALL_TAKEN_BACK" = some (some (.int 2 t))
  kOVER : ∃ t, PySem.W.nsIn K mainGlobals "WAS_OVER" = some (some (.int 3 t))
  bLen : PySem.W.nsIn K mainGlobals "len" = some none
  bSet : PySem.W.nsIn K mainGlobals "set" = some none
  bAll : PySem.W.nsIn K mainGlobals "all" = some none
  bList : PySem.W.nsIn K mainGlobals "list" = some none
  bSorted : PySem.W.nsIn K mainGlobals "sorted" = some none
  bRange : PySem.W.nsIn K mainGlobals "range" = some none
theorem all_mk {P : Program} {w : World} {K : PySem.W.Frag} {h : Heap} {mg : Str → Option Value} {CI CD aN c Pt f0 fII fIG fIE fHA fLO fER fDI fST fGI fMA fUS fBA fPE fDA fOF fWY fFU fTH fAT fAW fGT fOV fEA fKE fIM fPO fAP fPA fEN fNU fAN fAS : Addr} (X : K.In h) (G : h.Ns mainGlobals mg) (hfa : mg "answers" = some (.ref f0))
    (A : All K CI CD aN c fII fIG fIE fHA fLO fER fDI fST fGI fMA fUS fBA fPE fDA fOF fWY fFU fTH fAT fAW fGT fOV fEA fKE fIM fPO fAP fPA fEN fNU fAN fAS) (hP : h.get? Pt = some { cls := .none, data := .fields #[] }) (nP : K.lookup Pt = none) (hc : PySem.W.CodeHd h c Pt) :
    ∃ (fd : FuncData) (c P' : Addr), (∀ (s : Shared) (us : List Value), us.length = (["calls"] : List Str).length → BindsTo s fd ⟨us, []⟩ ((["calls"] : List Str).zip us)) ∧ h.get? P' = some { cls := .none, data := .fields #[] } ∧ K.lookup P' = none ∧ PySem.W.CodeHd h c P' ∧
      ∀ base : Heap, K.In base → base.Ns mainGlobals mg → TabB base mg c P' → FnOk P w K mg base CX0 8 f0 fd ["calls"] (spAns K P') := by
  have e0 := hfa.symm.trans (PySem.W.mg_of X G A.aAS)
  cases e0
  have gi : ∀ {x : Str} {i : Int}, (∃ t, PySem.W.nsIn K mainGlobals x = some (some (.int i t))) → GI mg x i := fun {x i} ⟨t, e⟩ => ⟨t, PySem.W.mg_of X G e⟩
  have clI : Cls K CI := ⟨A.cI.pg, A.cI.hd, A.cI.po, A.cI.sa⟩
  have clD : Cls K CD := ⟨A.cD.pg, A.cD.hd, A.cD.po, A.cD.sa⟩
  have T : Txt K mg CI CD := { clI := clI, clD := clD, gI := PySem.W.mg_of X G A.aI, gD := PySem.W.mg_of X G A.aD, nPerson := A.nPerson, nPurposes := A.nPurposes, nUntil := A.nUntil, nInside := A.nInside, nWhy := A.nWhy, nBy := A.nBy, nDay := A.nDay, nMany := A.nMany, nToday := A.nToday, nKept := A.nKept, kABSENT := gi A.kABSENT, kDENIED := gi A.kDENIED, kWRONG := gi A.kWRONG, kFULL := gi A.kFULL, kSTART := gi A.kSTART, kGIVE := gi A.kGIVE, kMAKE := gi A.kMAKE, kUSE := gi A.kUSE, kBACK := gi A.kBACK, kPERS := gi A.kPERS, kDAYS := gi A.kDAYS, kWHY := gi A.kWHY, kLEAST := gi A.kLEAST, kMOST := gi A.kMOST, kPERSON := gi A.kPERSON, kPURPOSE := gi A.kPURPOSE, kALL := gi A.kALL, kDAY := gi A.kDAY, kMDAYS := gi A.kMDAYS, kITEMS := gi A.kITEMS, kPARTS := gi A.kPARTS, kPLAIN := gi A.kPLAIN, kCOUNTED := gi A.kCOUNTED, kFORM := gi A.kFORM, kWFORM := gi A.kWFORM, kNOTE := gi A.kNOTE, kNOP := gi A.kNOP, kTAKEN := gi A.kTAKEN, kOVER := gi A.kOVER, bLen := PySem.W.mg_none_of X G A.bLen, bSet := PySem.W.mg_none_of X G A.bSet, bAll := PySem.W.mg_none_of X G A.bAll, bList := PySem.W.mg_none_of X G A.bList, bSorted := PySem.W.mg_none_of X G A.bSorted, bRange := PySem.W.mg_none_of X G A.bRange }
  obtain ⟨dII, FII⟩ := A.sII.fn
  have bII := FII.binds (ps := ["self", "person", "purposes", "until", "inside"]) fun _ _ _ _ _ _ us hl => match us, hl with | [_, _, _, _, _], _ => rfl
  obtain ⟨dIG, FIG⟩ := A.sIG.fn
  have bIG := FIG.binds (ps := ["self"]) fun _ _ _ _ _ _ us hl => match us, hl with | [_], _ => rfl
  obtain ⟨dIE, FIE⟩ := A.sIE.fn
  have bIE := FIE.binds (ps := ["self"]) fun _ _ _ _ _ _ us hl => match us, hl with | [_], _ => rfl
  obtain ⟨dHA, FHA⟩ := A.sHA.fn
  have bHA := FHA.binds (ps := ["self", "purposes"]) fun _ _ _ _ _ _ us hl => match us, hl with | [_, _], _ => rfl
  obtain ⟨dLO, FLO⟩ := A.sLO.fn
  have bLO := FLO.binds (ps := ["self", "purposes"]) fun _ _ _ _ _ _ us hl => match us, hl with | [_, _], _ => rfl
  obtain ⟨dER, FER⟩ := A.sER.fn
  have bER := FER.binds (ps := ["self", "why", "by", "day"]) fun _ _ _ _ _ _ us hl => match us, hl with | [_, _, _, _], _ => rfl
  obtain ⟨dDI, FDI⟩ := A.sDI.fn
  have bDI := FDI.binds (ps := ["self"]) fun _ _ _ _ _ _ us hl => match us, hl with | [_], _ => rfl
  obtain ⟨dST, FST⟩ := A.sST.fn
  have bST := FST.binds (ps := ["self", "many"]) fun _ _ _ _ _ _ us hl => match us, hl with | [_, _], _ => rfl
  obtain ⟨dGI, FGI⟩ := A.sGI.fn
  have bGI := FGI.binds (ps := ["self", "person", "purposes", "until"]) fun _ _ _ _ _ _ us hl => match us, hl with | [_, _, _, _], _ => rfl
  obtain ⟨dMA, FMA⟩ := A.sMA.fn
  have bMA := FMA.binds (ps := ["self", "kind", "purposes", "of"]) fun _ _ _ _ _ _ us hl => match us, hl with | [_, _, _, _], _ => rfl
  obtain ⟨dUS, FUS⟩ := A.sUS.fn
  have bUS := FUS.binds (ps := ["self", "number", "purpose"]) fun _ _ _ _ _ _ us hl => match us, hl with | [_, _, _], _ => rfl
  obtain ⟨dBA, FBA⟩ := A.sBA.fn
  have bBA := FBA.binds (ps := ["self", "number", "purposes"]) fun _ _ _ _ _ _ us hl => match us, hl with | [_, _, _], _ => rfl
  obtain ⟨dPE, FPE⟩ := A.sPE.fn
  have bPE := FPE.binds (ps := ["self", "person"]) fun _ _ _ _ _ _ us hl => match us, hl with | [_, _], _ => rfl
  obtain ⟨dDA, FDA⟩ := A.sDA.fn
  have bDA := FDA.binds (ps := ["self", "n"]) fun _ _ _ _ _ _ us hl => match us, hl with | [_, _], _ => rfl
  obtain ⟨dOF, FOF⟩ := A.sOF.fn
  have bOF := FOF.binds (ps := ["self", "person"]) fun _ _ _ _ _ _ us hl => match us, hl with | [_, _], _ => rfl
  obtain ⟨dWY, FWY⟩ := A.sWY.fn
  have bWY := FWY.binds (ps := ["self", "number"]) fun _ _ _ _ _ _ us hl => match us, hl with | [_, _], _ => rfl
  obtain ⟨dFU, FFU⟩ := A.sFU.fn
  have bFU := FFU.binds (ps := ["self"]) fun _ _ _ _ _ _ us hl => match us, hl with | [_], _ => rfl
  obtain ⟨dTH, FTH⟩ := A.sTH.fn
  have bTH := FTH.binds (ps := ["self", "number"]) fun _ _ _ _ _ _ us hl => match us, hl with | [_, _], _ => rfl
  obtain ⟨dAT, FAT⟩ := A.sAT.fn
  have bAT := FAT.binds (ps := ["self"]) fun _ _ _ _ _ _ us hl => match us, hl with | [_], _ => rfl
  obtain ⟨dAW, FAW⟩ := A.sAW.fn
  have bAW := FAW.binds (ps := ["self", "given"]) fun _ _ _ _ _ _ us hl => match us, hl with | [_, _], _ => rfl
  obtain ⟨dGT, FGT⟩ := A.sGT.fn
  have bGT := FGT.binds (ps := ["self"]) fun _ _ _ _ _ _ us hl => match us, hl with | [_], _ => rfl
  obtain ⟨dOV, FOV⟩ := A.sOV.fn
  have bOV := FOV.fn.binds (ps := ["self"]) fun _ _ _ _ _ _ us hl => match us, hl with | [_], _ => rfl
  obtain ⟨dEA, FEA⟩ := A.sEA.fn
  have bEA := FEA.binds (ps := ["self", "given", "why", "day"]) fun _ _ _ _ _ _ us hl => match us, hl with | [_, _, _, _], _ => rfl
  obtain ⟨dKE, FKE⟩ := A.sKE.fn
  have bKE := FKE.binds (ps := ["self", "item"]) fun _ _ _ _ _ _ us hl => match us, hl with | [_, _], _ => rfl
  obtain ⟨dIM, FIM⟩ := A.sIM.fn
  have bIM := FIM.binds (ps := ["self", "kind", "of"]) fun _ _ _ _ _ _ us hl => match us, hl with | [_, _, _], _ => rfl
  obtain ⟨dPO, FPO⟩ := A.sPO.fn
  have bPO := FPO.binds (ps := ["self", "given"]) fun _ _ _ _ _ _ us hl => match us, hl with | [_, _], _ => rfl
  obtain ⟨dAP, FAP⟩ := A.sAP.fn
  have bAP := FAP.binds (ps := ["purposes"]) fun _ _ _ _ _ _ us hl => match us, hl with | [_], _ => rfl
  obtain ⟨dPA, FPA⟩ := A.sPA.fn
  have bPA := FPA.binds (ps := ["of"]) fun _ _ _ _ _ _ us hl => match us, hl with | [_], _ => rfl
  obtain ⟨dEN, FEN⟩ := A.sEN.fn
  have bEN := FEN.binds (ps := ["calls", "begin"]) fun _ _ _ _ _ _ us hl => match us, hl with | [_, _], _ => rfl
  obtain ⟨dNU, FNU⟩ := A.sNU.fn
  have bNU := FNU.binds (ps := ["desk", "call"]) fun _ _ _ _ _ _ us hl => match us, hl with | [_, _], _ => rfl
  obtain ⟨dAN, FAN⟩ := A.sAN.fn
  have bAN := FAN.binds (ps := ["desk", "call"]) fun _ _ _ _ _ _ us hl => match us, hl with | [_, _], _ => rfl
  obtain ⟨dAS, FAS⟩ := A.sAS.fn
  have bAS := FAS.binds (ps := ["calls"]) fun _ _ _ _ _ _ us hl => match us, hl with | [_], _ => rfl
  have MII : Meth K CI "__init__" fII := ⟨A.mII.fi, A.mII.is, FII.kp⟩
  have MIG : Meth K CI "is_given" fIG := ⟨A.mIG.fi, A.mIG.is, FIG.kp⟩
  have MIE : Meth K CI "is_erased" fIE := ⟨A.mIE.fi, A.mIE.is, FIE.kp⟩
  have MHA : Meth K CI "has_all" fHA := ⟨A.mHA.fi, A.mHA.is, FHA.kp⟩
  have MLO : Meth K CI "lose" fLO := ⟨A.mLO.fi, A.mLO.is, FLO.kp⟩
  have MER : Meth K CI "erase" fER := ⟨A.mER.fi, A.mER.is, FER.kp⟩
  have MDI : Meth K CD "__init__" fDI := ⟨A.mDI.fi, A.mDI.is, FDI.kp⟩
  have MST : Meth K CD "er_start" fST := ⟨A.mST.fi, A.mST.is, FST.kp⟩
  have MGI : Meth K CD "er_give" fGI := ⟨A.mGI.fi, A.mGI.is, FGI.kp⟩
  have MMA : Meth K CD "er_make" fMA := ⟨A.mMA.fi, A.mMA.is, FMA.kp⟩
  have MUS : Meth K CD "er_use" fUS := ⟨A.mUS.fi, A.mUS.is, FUS.kp⟩
  have MBA : Meth K CD "er_back" fBA := ⟨A.mBA.fi, A.mBA.is, FBA.kp⟩
  have MPE : Meth K CD "er_person" fPE := ⟨A.mPE.fi, A.mPE.is, FPE.kp⟩
  have MDA : Meth K CD "er_days" fDA := ⟨A.mDA.fi, A.mDA.is, FDA.kp⟩
  have MOF : Meth K CD "er_of" fOF := ⟨A.mOF.fi, A.mOF.is, FOF.kp⟩
  have MWY : Meth K CD "er_why" fWY := ⟨A.mWY.fi, A.mWY.is, FWY.kp⟩
  have MFU : Meth K CD "is_full" fFU := ⟨A.mFU.fi, A.mFU.is, FFU.kp⟩
  have MTH : Meth K CD "is_there" fTH := ⟨A.mTH.fi, A.mTH.is, FTH.kp⟩
  have MAT : Meth K CD "all_there" fAT := ⟨A.mAT.fi, A.mAT.is, FAT.kp⟩
  have MAW : Meth K CD "all_with" fAW := ⟨A.mAW.fi, A.mAW.is, FAW.kp⟩
  have MGT : Meth K CD "given_there" fGT := ⟨A.mGT.fi, A.mGT.is, FGT.kp⟩
  have MOV : Meth K CD "over_by_now" fOV := ⟨A.mOV.fi, A.mOV.is, FOV.fn.kp⟩
  have MEA : Meth K CD "erase_all_with" fEA := ⟨A.mEA.fi, A.mEA.is, FEA.kp⟩
  have MKE : Meth K CD "keep" fKE := ⟨A.mKE.fi, A.mKE.is, FKE.kp⟩
  have MIM : Meth K CD "inside_made" fIM := ⟨A.mIM.fi, A.mIM.is, FIM.kp⟩
  have MPO : Meth K CD "people_of" fPO := ⟨A.mPO.fi, A.mPO.is, FPO.kp⟩
  have gAP := PySem.W.mg_of X G A.aAP
  have gPA := PySem.W.mg_of X G A.aPA
  have gEN := PySem.W.mg_of X G A.aEN
  have gNU := PySem.W.mg_of X G A.aNU
  have gAN := PySem.W.mg_of X G A.aAN
  have gAS := PySem.W.mg_of X G A.aAS
  have gNum := PySem.W.mg_of X G A.aNum
  have mkI : Mk K CI fII := ⟨A.cI.mks, A.mII.fi, A.mII.is, A.cI.kc⟩
  have mkD : Mk K CD fDI := ⟨A.cD.mks, A.mDI.fi, A.mDI.is, A.cD.kc⟩
  refine ⟨dAS, c, Pt, fun s us hu => ?_, hP, nP, hc, fun base KB GB TB => ?_⟩
  · obtain ⟨oc, od, kV, dc, pm, an, cdv, ct, osl, e, _, _⟩ := FAS.ex
    rw [e]
    match us, hu with
    | [_], _ => exact .of_eq rfl
  have oII : FnOk P w K mg base CX0 1 fII dII _ _ := ok_itemInit FII T
  have oIG : FnOk P w K mg base CX0 1 fIG dIG _ _ := ok_isGiven FIG T
  have oIE : FnOk P w K mg base CX0 1 fIE dIE _ _ := ok_isErased FIE T
  have oHA : FnOk P w K mg base CX0 1 fHA dHA _ _ := ok_hasAll FHA T
  have oLO : FnOk P w K mg base CX0 1 fLO dLO _ _ := ok_lose FLO T
  have oER : FnOk P w K mg base CX0 1 fER dER _ _ := ok_erase FER T
  have oAP : FnOk P w K mg base CX0 1 fAP dAP _ _ := ok_arePurposes FAP T
  have oPA : FnOk P w K mg base CX0 1 fPA dPA _ _ := ok_areParts FPA T
  have oDI : FnOk P w K mg base CX0 1 fDI dDI _ _ := ok_deskInit FDI T
  have oFU : FnOk P w K mg base CX0 1 fFU dFU _ _ := ok_isFull FFU T
  have oTH : FnOk P w K mg base CX0 2 fTH dTH _ _ := ok_isThere FTH T oIE bIE MIE
  have oKE : FnOk P w K mg base CX0 1 fKE dKE _ _ := ok_keep FKE T
  have oPO : FnOk P w K mg base CX0 1 fPO dPO _ _ := ok_peopleOf FPO T
  have oIM : FnOk P w K mg base CX0 2 fIM dIM _ _ := ok_insideMade FIM T oPO bPO MPO
  have oAT : FnOk P w K mg base CX0 2 fAT dAT _ _ := ok_allThere FAT T oIE bIE MIE
  have oAW : FnOk P w K mg base CX0 3 fAW dAW _ _ := ok_allWith FAW T oAT bAT MAT
  have oGT : FnOk P w K mg base CX0 3 fGT dGT _ _ := ok_givenThere FGT T oTH bTH MTH oIG bIG MIG
  have oEA : FnOk P w K mg base CX0 4 fEA dEA _ _ := ok_eraseAll FEA T oAW bAW MAW oER bER MER
  have oOV : FnOk P w K mg base CX0 4 fOV dOV _ _ := ok_over FOV T TB oGT bGT MGT
  have oST : FnOk P w K mg base CX0 1 fST dST _ _ := ok_erStart FST T
  have oGI : FnOk P w K mg base CX0 3 fGI dGI _ _ := ok_erGive FGI T oAP bAP gAP FAP.kp oFU bFU MFU oKE bKE MKE oII bII mkI
  have oMA : FnOk P w K mg base CX0 3 fMA dMA _ _ := ok_erMake FMA T oAP bAP gAP FAP.kp oPA bPA gPA FPA.kp oTH bTH MTH oHA bHA MHA oFU bFU MFU oKE bKE MKE oII bII mkI oIM bIM MIM
  have oUS : FnOk P w K mg base CX0 3 fUS dUS _ _ := ok_erUse FUS T oTH bTH MTH oHA bHA MHA
  have oBA : FnOk P w K mg base CX0 4 fBA dBA _ _ := ok_erBack FBA T oTH bTH MTH oIG bIG MIG oAP bAP gAP FAP.kp oAT bAT MAT oAW bAW MAW oLO bLO MLO oER bER MER
  have oPE : FnOk P w K mg base CX0 5 fPE dPE _ _ := ok_erPerson FPE T oAT bAT MAT oGT bGT MGT oEA bEA MEA
  have oDA : FnOk P w K mg base CX0 5 fDA dDA _ _ := ok_erDays FDA T oAT bAT MAT oOV bOV MOV oEA bEA MEA
  have oOF : FnOk P w K mg base CX0 3 fOF dOF _ _ := ok_erOf FOF T oAT bAT MAT oPO bPO MPO
  have oWY : FnOk P w K mg base CX0 2 fWY dWY _ _ := ok_erWhy FWY T oIE bIE MIE
  have oEN : FnOk P w K mg base CX0 1 fEN dEN _ _ := ok_end FEN T gNum A.tNum
  have oNU : FnOk P w K mg base CX0 6 fNU dNU _ _ := ok_number FNU T oST bST MST oGI bGI MGI oMA bMA MMA oUS bUS MUS oBA bBA MBA oPE bPE MPE oDA bDA MDA oOF bOF MOF
  have oAN : FnOk P w K mg base CX0 7 fAN dAN _ _ := ok_answer FAN T oNU bNU gNU FNU.kp oWY bWY MWY
  exact ok_answers FAS T oDI bDI mkD oEN bEN gEN FEN.kp oAN bAN gAN FAN.kp
end Er
set_option Elab.async false
/-- the table at 189 beside what is written -/
local macro_rules
  | `(tactic| o_headS ($f $k $a $e)) => `(tactic| o_headS (PySem.W.kmHook $k $a $e [189]))
open PySem PySem.W PyProof.Rows
set_option maxRecDepth 100000 in
set_option maxHeartbeats 0 in
theorem PySem.Challenge.cw_erasedall_s01_answers_holds : PySem.Challenge.rw_erasedall_s01_answers.Holds := by
  w_on; k_headS; (case hw => exact ⟨[.list [.int 0, .int 2]], by decide +kernel, by decide +kernel⟩)
  k_fillS
  refine Er.walk_tab (r := PySem.Challenge.rw_erasedall_s01_answers) (k := 8) (ps := ["calls"]) (sp := Er.spAns) (by decide +kernel) rfl rfl ⟨rfl, by decide, by decide⟩ (fun w h Y => PySem.W.km_in_of Y) ?F ?S
  case F =>
    intro w mg fa h Y KX G hmg
    refine' Er.all_mk (c := 191) (Pt := 189) KX G hmg ⟨?aI, ?aD, ⟨?cI1, ?cI2, ?cI3, ?cI4, ?cI5, ?cI6⟩, ⟨?cD1, ?cD2, ?cD3, ?cD4, ?cD5, ?cD6⟩, ⟨?mIIa, ?mIIb⟩, Er.stands_mk ?sIIl ?sIIc ?sIIk, ⟨?mIGa, ?mIGb⟩, Er.stands_mk ?sIGl ?sIGc ?sIGk, ⟨?mIEa, ?mIEb⟩, Er.stands_mk ?sIEl ?sIEc ?sIEk, ⟨?mHAa, ?mHAb⟩, Er.stands_mk ?sHAl ?sHAc ?sHAk, ⟨?mLOa, ?mLOb⟩, Er.stands_mk ?sLOl ?sLOc ?sLOk, ⟨?mERa, ?mERb⟩, Er.stands_mk ?sERl ?sERc ?sERk, ⟨?mDIa, ?mDIb⟩, Er.stands_mk ?sDIl ?sDIc ?sDIk, ⟨?mSTa, ?mSTb⟩, Er.stands_mk ?sSTl ?sSTc ?sSTk, ⟨?mGIa, ?mGIb⟩, Er.stands_mk ?sGIl ?sGIc ?sGIk, ⟨?mMAa, ?mMAb⟩, Er.stands_mk ?sMAl ?sMAc ?sMAk, ⟨?mUSa, ?mUSb⟩, Er.stands_mk ?sUSl ?sUSc ?sUSk, ⟨?mBAa, ?mBAb⟩, Er.stands_mk ?sBAl ?sBAc ?sBAk, ⟨?mPEa, ?mPEb⟩, Er.stands_mk ?sPEl ?sPEc ?sPEk, ⟨?mDAa, ?mDAb⟩, Er.stands_mk ?sDAl ?sDAc ?sDAk, ⟨?mOFa, ?mOFb⟩, Er.stands_mk ?sOFl ?sOFc ?sOFk, ⟨?mWYa, ?mWYb⟩, Er.stands_mk ?sWYl ?sWYc ?sWYk, ⟨?mFUa, ?mFUb⟩, Er.stands_mk ?sFUl ?sFUc ?sFUk, ⟨?mTHa, ?mTHb⟩, Er.stands_mk ?sTHl ?sTHc ?sTHk, ⟨?mATa, ?mATb⟩, Er.stands_mk ?sATl ?sATc ?sATk, ⟨?mAWa, ?mAWb⟩, Er.stands_mk ?sAWl ?sAWc ?sAWk, ⟨?mGTa, ?mGTb⟩, Er.stands_mk ?sGTl ?sGTc ?sGTk, ⟨?mOVa, ?mOVb⟩, Er.standsC_mk ?sOVl ?sOVc ?sOVk, ⟨?mEAa, ?mEAb⟩, Er.stands_mk ?sEAl ?sEAc ?sEAk, ⟨?mKEa, ?mKEb⟩, Er.stands_mk ?sKEl ?sKEc ?sKEk, ⟨?mIMa, ?mIMb⟩, Er.stands_mk ?sIMl ?sIMc ?sIMk, ⟨?mPOa, ?mPOb⟩, Er.stands_mk ?sPOl ?sPOc ?sPOk, ?aAP, Er.stands_mk ?sAPl ?sAPc ?sAPk, ?aPA, Er.stands_mk ?sPAl ?sPAc ?sPAk, ?aEN, Er.stands_mk ?sENl ?sENc ?sENk, ?aNU, Er.stands_mk ?sNUl ?sNUc ?sNUk, ?aAN, Er.stands_mk ?sANl ?sANc ?sANk, ?aAS, Er.stands_mk ?sASl ?sASc ?sASk, ?aNum, Er.tup_mk ?tNum, ?nPerson, ?nPurposes, ?nUntil, ?nInside, ?nWhy, ?nBy, ?nDay, ?nMany, ?nToday, ?nKept, Er.int_mk ?kABSENT, Er.int_mk ?kDENIED, Er.int_mk ?kWRONG, Er.int_mk ?kFULL, Er.int_mk ?kSTART, Er.int_mk ?kGIVE, Er.int_mk ?kMAKE, Er.int_mk ?kUSE, Er.int_mk ?kBACK, Er.int_mk ?kPERS, Er.int_mk ?kDAYS, Er.int_mk ?kWHY, Er.int_mk ?kLEAST, Er.int_mk ?kMOST, Er.int_mk ?kPERSON, Er.int_mk ?kPURPOSE, Er.int_mk ?kALL, Er.int_mk ?kDAY, Er.int_mk ?kMDAYS, Er.int_mk ?kITEMS, Er.int_mk ?kPARTS, Er.int_mk ?kPLAIN, Er.int_mk ?kCOUNTED, Er.int_mk ?kFORM, Er.int_mk ?kWFORM, Er.int_mk ?kNOTE, Er.int_mk ?kNOP, Er.int_mk ?kTAKEN, Er.int_mk ?kOVER, ?bLen, ?bSet, ?bAll, ?bList, ?bSorted, ?bRange⟩ (PySem.W.km_tabs_of Y 189 (List.mem_singleton.mpr rfl)) (by kernel_rfl) (PySem.W.codeHd_of_K KX (by kernel_rfl))
    (case aI => k_is)
    (case aD => k_is)
    (case cI1 => k_is)
    (case cI2 => k_is)
    (case cI3 => k_is)
    (case cI4 => k_is)
    (case cI5 => k_is)
    (case cI6 => k_is)
    (case cD1 => k_is)
    (case cD2 => k_is)
    (case cD3 => k_is)
    (case cD4 => k_is)
    (case cD5 => k_is)
    (case cD6 => k_is)
    (case mIIa => k_is)
    (case mIIb => k_is)
    (case sIIl => k_is)
    (case sIIc => k_is)
    (case sIIk => k_is)
    (case mIGa => k_is)
    (case mIGb => k_is)
    (case sIGl => k_is)
    (case sIGc => k_is)
    (case sIGk => k_is)
    (case mIEa => k_is)
    (case mIEb => k_is)
    (case sIEl => k_is)
    (case sIEc => k_is)
    (case sIEk => k_is)
    (case mHAa => k_is)
    (case mHAb => k_is)
    (case sHAl => k_is)
    (case sHAc => k_is)
    (case sHAk => k_is)
    (case mLOa => k_is)
    (case mLOb => k_is)
    (case sLOl => k_is)
    (case sLOc => k_is)
    (case sLOk => k_is)
    (case mERa => k_is)
    (case mERb => k_is)
    (case sERl => k_is)
    (case sERc => k_is)
    (case sERk => k_is)
    (case mDIa => k_is)
    (case mDIb => k_is)
    (case sDIl => k_is)
    (case sDIc => k_is)
    (case sDIk => k_is)
    (case mSTa => k_is)
    (case mSTb => k_is)
    (case sSTl => k_is)
    (case sSTc => k_is)
    (case sSTk => k_is)
    (case mGIa => k_is)
    (case mGIb => k_is)
    (case sGIl => k_is)
    (case sGIc => k_is)
    (case sGIk => k_is)
    (case mMAa => k_is)
    (case mMAb => k_is)
    (case sMAl => k_is)
    (case sMAc => k_is)
    (case sMAk => k_is)
    (case mUSa => k_is)
    (case mUSb => k_is)
    (case sUSl => k_is)
    (case sUSc => k_is)
    (case sUSk => k_is)
    (case mBAa => k_is)
    (case mBAb => k_is)
    (case sBAl => k_is)
    (case sBAc => k_is)
    (case sBAk => k_is)
    (case mPEa => k_is)
    (case mPEb => k_is)
    (case sPEl => k_is)
    (case sPEc => k_is)
    (case sPEk => k_is)
    (case mDAa => k_is)
    (case mDAb => k_is)
    (case sDAl => k_is)
    (case sDAc => k_is)
    (case sDAk => k_is)
    (case mOFa => k_is)
    (case mOFb => k_is)
    (case sOFl => k_is)
    (case sOFc => k_is)
    (case sOFk => k_is)
    (case mWYa => k_is)
    (case mWYb => k_is)
    (case sWYl => k_is)
    (case sWYc => k_is)
    (case sWYk => k_is)
    (case mFUa => k_is)
    (case mFUb => k_is)
    (case sFUl => k_is)
    (case sFUc => k_is)
    (case sFUk => k_is)
    (case mTHa => k_is)
    (case mTHb => k_is)
    (case sTHl => k_is)
    (case sTHc => k_is)
    (case sTHk => k_is)
    (case mATa => k_is)
    (case mATb => k_is)
    (case sATl => k_is)
    (case sATc => k_is)
    (case sATk => k_is)
    (case mAWa => k_is)
    (case mAWb => k_is)
    (case sAWl => k_is)
    (case sAWc => k_is)
    (case sAWk => k_is)
    (case mGTa => k_is)
    (case mGTb => k_is)
    (case sGTl => k_is)
    (case sGTc => k_is)
    (case sGTk => k_is)
    (case mOVa => k_is)
    (case mOVb => k_is)
    (case sOVl => k_is)
    (case sOVc => k_is)
    (case sOVk => k_is)
    (case mEAa => k_is)
    (case mEAb => k_is)
    (case sEAl => k_is)
    (case sEAc => k_is)
    (case sEAk => k_is)
    (case mKEa => k_is)
    (case mKEb => k_is)
    (case sKEl => k_is)
    (case sKEc => k_is)
    (case sKEk => k_is)
    (case mIMa => k_is)
    (case mIMb => k_is)
    (case sIMl => k_is)
    (case sIMc => k_is)
    (case sIMk => k_is)
    (case mPOa => k_is)
    (case mPOb => k_is)
    (case sPOl => k_is)
    (case sPOc => k_is)
    (case sPOk => k_is)
    (case aAP => k_is)
    (case sAPl => k_is)
    (case sAPc => k_is)
    (case sAPk => k_is)
    (case aPA => k_is)
    (case sPAl => k_is)
    (case sPAc => k_is)
    (case sPAk => k_is)
    (case aEN => k_is)
    (case sENl => k_is)
    (case sENc => k_is)
    (case sENk => k_is)
    (case aNU => k_is)
    (case sNUl => k_is)
    (case sNUc => k_is)
    (case sNUk => k_is)
    (case aAN => k_is)
    (case sANl => k_is)
    (case sANc => k_is)
    (case sANk => k_is)
    (case aAS => k_is)
    (case sASl => k_is)
    (case sASc => k_is)
    (case sASk => k_is)
    (case aNum => k_is)
    (case tNum => k_is)
    (case nPerson => k_is)
    (case nPurposes => k_is)
    (case nUntil => k_is)
    (case nInside => k_is)
    (case nWhy => k_is)
    (case nBy => k_is)
    (case nDay => k_is)
    (case nMany => k_is)
    (case nToday => k_is)
    (case nKept => k_is)
    (case kABSENT => k_is)
    (case kDENIED => k_is)
    (case kWRONG => k_is)
    (case kFULL => k_is)
    (case kSTART => k_is)
    (case kGIVE => k_is)
    (case kMAKE => k_is)
    (case kUSE => k_is)
    (case kBACK => k_is)
    (case kPERS => k_is)
    (case kDAYS => k_is)
    (case kWHY => k_is)
    (case kLEAST => k_is)
    (case kMOST => k_is)
    (case kPERSON => k_is)
    (case kPURPOSE => k_is)
    (case kALL => k_is)
    (case kDAY => k_is)
    (case kMDAYS => k_is)
    (case kITEMS => k_is)
    (case kPARTS => k_is)
    (case kPLAIN => k_is)
    (case kCOUNTED => k_is)
    (case kFORM => k_is)
    (case kWFORM => k_is)
    (case kNOTE => k_is)
    (case kNOP => k_is)
    (case kTAKEN => k_is)
    (case kOVER => k_is)
    (case bLen => k_is)
    (case bSet => k_is)
    (case bAll => k_is)
    (case bList => k_is)
    (case bSorted => k_is)
    (case bRange => k_is)
  case S =>
    intro K Pt H0 H xs a hwi hask hx up hPt
    cases hx with
    | cons h1 h2 =>
      cases h2
      cases h1 with
      | lst hs ha =>
        have e := L2.ints_dw a.1 _ ha
        subst e
        have q : ((Codec.inLen 0 16000 a.1 && a.1.all (Codec.inInt 0 9223372036854775807)) && true) = true := hwi
        rw [Bool.and_eq_true, Bool.and_eq_true] at q
        exact ⟨_, a.1, rfl, L2.Same.seq up hs, (Codec.inNat_iff.mp q.1.1).2, hask, hPt, fun H' p hp => .lst (L2.SqL.of hp) (L2.dw_ints _)⟩
#print axioms PySem.Challenge.cw_erasedall_s01_answers_holds
