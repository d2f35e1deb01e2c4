import PyProof.Rows.All
import Wide.All
import OpenK.AllK
import Wide.FinOn
import HandS.ForMost
import HandS.SlotsOwn
import HandS.Wide
import HandS.IsInst
import HandS.Style
import HandS.Zip
import HandS.Walk
import HandS.Exc
import HandS.TryOnly
import HandS.ExcOwn
import HandS.WordsExc
import HandS.ExcIs
import KE.OsGo
import HandS.Codes
import HandS.Text
import KE.IntTextLaws
import KE.KExcIs
import KE.DataEq
import KE.KTupSum
import HandS.Defaults
import HandS.MakeKw
import HandS.MakeKwOnly
import HandS.ClsMeth
import HandS.Strs
import KE.GoesMore
import HandS.TupAny
import HandS.TupMul
import HandS.TryMany
import HandS.ExcCtx
import HandS.ExcInit
import HandS.RaiseFrom
import HandS.HotCalls
import HandS.SuiteRaise
import KE.KOpsOwn
import HandS.TupSets
import HandS.SetFor
import HandS.OwnIter
import HandS.IterVal
import HandS.Dict
import HandS.More
import HandS.DictComp
import HandS.Conv
import PyProof.P3In
import PyProof.ReprRoads
import PyProof.EqKinds
import PyProof.NeKinds
import HandS.GenList
import PyProof.ListStr
import PyProof.InstNe
import PySem.Challenge.RW_wheelchorus_k54_cards_and_their_texts
import HandS.FStr
set_option Elab.async false
set_option linter.all false
set_option maxRecDepth 100000
set_option maxHeartbeats 4000000
/-! Numbers as lists of digits, their rows, and where two rows part. -/
namespace Wm
open PySem L2
def codes (ds : List Nat) : List Nat := ds.map (· + 48)
def numS (ds : List Nat) : Str := ⟨(codes ds).toArray⟩
structure Dig (ds : List Nat) : Prop where
  dig : ∀ d ∈ ds, 1 ≤ d ∧ d ≤ 9
structure Num (ds : List Nat) : Prop where
  pos : 1 ≤ ds.length
  len : ds.length ≤ 4
  dig : ∀ d ∈ ds, 1 ≤ d ∧ d ≤ 9
  sum : ds.sum ≤ 24
def blk (d : Nat) : List Int := (List.replicate d [1, 0]).flatten
def rowL : List Nat → List Int
  | [] => [0, 0]
  | d :: ds => blk d ++ ([0, 0] ++ rowL ds)
structure Diff (xs ys : List Int) (k : Nat) (a b : Int) : Prop where
  one : xs[k]? = some a
  two : ys[k]? = some b
  ne : a ≠ b
  eq : ∀ j, j < k → xs[j]? = ys[j]?
theorem Diff.symm {xs ys : List Int} {k : Nat} {a b : Int} (h : Diff xs ys k a b) : Diff ys xs k b a :=
  ⟨h.two, h.one, h.ne.symm, fun j l => (h.eq j l).symm⟩
theorem Diff.cons {xs ys : List Int} {k : Nat} {a b : Int} (z : Int) (h : Diff xs ys k a b) : Diff (z :: xs) (z :: ys) (k + 1) a b := by
  refine ⟨by simpa using h.one, by simpa using h.two, h.ne, fun j l => ?_⟩
  cases j with
  | zero => rfl
  | succ j => simpa using h.eq j (by omega)
theorem Diff.app {xs ys : List Int} {k : Nat} {a b : Int} : ∀ (p : List Int), Diff xs ys k a b → Diff (p ++ xs) (p ++ ys) (p.length + k) a b
  | [], h => by simpa using h
  | z :: p, h => by
    have ih := (Diff.app p h).cons z
    have e : (z :: p).length + k = p.length + k + 1 := by simp only [List.length_cons]; omega
    rw [e]
    exact ih
theorem Diff.uniq {xs ys : List Int} {k l : Nat} {a b c d : Int} (h : Diff xs ys k a b) (g : Diff xs ys l c d) : k = l ∧ a = c ∧ b = d := by
  have e : k = l := by
    rcases Nat.lt_trichotomy k l with x | x | x
    · exact absurd (by have q := g.eq k x; rw [h.one, h.two] at q; exact Option.some.inj q) h.ne
    · exact x
    · exact absurd (by have q := h.eq l x; rw [g.one, g.two] at q; exact Option.some.inj q) g.ne
  subst e
  exact ⟨rfl, Option.some.inj (h.one.symm.trans g.one), Option.some.inj (h.two.symm.trans g.two)⟩
theorem Diff.lt1 {xs ys : List Int} {k : Nat} {a b : Int} (h : Diff xs ys k a b) : k < xs.length := (List.getElem?_eq_some_iff.mp h.one).1
theorem Diff.lt2 {xs ys : List Int} {k : Nat} {a b : Int} (h : Diff xs ys k a b) : k < ys.length := (List.getElem?_eq_some_iff.mp h.two).1
theorem blk_add (d e : Nat) : blk (d + e) = blk d ++ blk e := by
  unfold blk
  rw [← List.replicate_append_replicate, List.flatten_append]
theorem blk_succ (e : Nat) : blk (e + 1) = [1, 0] ++ blk e := by
  rw [Nat.add_comm, blk_add]
  rfl
theorem blk_len (d : Nat) : (blk d).length = 2 * d := by
  induction d with
  | zero => rfl
  | succ d ih => rw [blk_succ, List.length_append, ih]; simp only [List.length_cons, List.length_nil]; omega
theorem row_less (d e : Nat) (ds es : List Nat) (h : d < e) : Diff (rowL (d :: ds)) (rowL (e :: es)) (2 * d) 0 1 := by
  obtain ⟨f, rfl⟩ : ∃ f, e = d + (f + 1) := ⟨e - d - 1, by omega⟩
  have h0 : Diff ([0, 0] ++ rowL ds) ([1, 0] ++ (blk f ++ ([0, 0] ++ rowL es))) 0 0 1 := ⟨rfl, rfl, by decide, fun j l => absurd l (Nat.not_lt_zero _)⟩
  have h1 := h0.app (blk d)
  rw [blk_len, Nat.add_zero] at h1
  have e1 : rowL ((d + (f + 1)) :: es) = blk d ++ ([1, 0] ++ (blk f ++ ([0, 0] ++ rowL es))) := by
    show blk (d + (f + 1)) ++ _ = _
    rw [blk_add, blk_succ, List.append_assoc, List.append_assoc]
  rw [e1]
  exact h1
theorem rows_part : ∀ (ds es : List Nat), (∀ d ∈ ds, 1 ≤ d) → (∀ e ∈ es, 1 ≤ e) →
    ds = es ∨ (∃ k, Diff (rowL ds) (rowL es) k 1 0 ∧ es < ds) ∨ (∃ k, Diff (rowL ds) (rowL es) k 0 1 ∧ ds < es)
  | [], [], _, _ => .inl rfl
  | [], e :: es, _, h => by
    obtain ⟨f, rfl⟩ : ∃ f, e = f + 1 := ⟨e - 1, by have := h e (by simp); omega⟩
    refine .inr (.inr ⟨0, ⟨rfl, ?_, by decide, fun j l => absurd l (Nat.not_lt_zero _)⟩, List.nil_lt_cons _ _⟩)
    show (blk (f + 1) ++ _)[0]? = _
    rw [blk_succ]
    rfl
  | d :: ds, [], h, _ => by
    obtain ⟨f, rfl⟩ : ∃ f, d = f + 1 := ⟨d - 1, by have := h d (by simp); omega⟩
    refine .inr (.inl ⟨0, ⟨?_, rfl, by decide, fun j l => absurd l (Nat.not_lt_zero _)⟩, List.nil_lt_cons _ _⟩)
    show (blk (f + 1) ++ _)[0]? = _
    rw [blk_succ]
    rfl
  | d :: ds, e :: es, h, g => by
    rcases Nat.lt_trichotomy d e with x | x | x
    · exact .inr (.inr ⟨_, row_less d e ds es x, List.cons_lt_cons_iff.mpr (.inl x)⟩)
    · subst x
      rcases rows_part ds es (fun y m => h y (List.mem_cons_of_mem _ m)) (fun y m => g y (List.mem_cons_of_mem _ m)) with q | ⟨k, q, l⟩ | ⟨k, q, l⟩
      · exact .inl (by rw [q])
      · exact .inr (.inl ⟨_, (q.app [0, 0]).app (blk d), List.cons_lt_cons_iff.mpr (.inr ⟨rfl, l⟩)⟩)
      · exact .inr (.inr ⟨_, (q.app [0, 0]).app (blk d), List.cons_lt_cons_iff.mpr (.inr ⟨rfl, l⟩)⟩)
    · exact .inr (.inl ⟨_, (row_less e d es ds x).symm, List.cons_lt_cons_iff.mpr (.inl x)⟩)
theorem codes_lt : ∀ (ds es : List Nat), ds < es → codes ds < codes es
  | [], [], h => absurd h (List.lt_irrefl _)
  | [], _ :: _, _ => List.nil_lt_cons _ _
  | _ :: _, [], h => absurd h (List.not_lt_nil _)
  | d :: ds, e :: es, h => by
    rcases List.cons_lt_cons_iff.mp h with x | ⟨x, y⟩
    · exact List.cons_lt_cons_iff.mpr (.inl (Nat.add_lt_add_right x 48))
    · exact List.cons_lt_cons_iff.mpr (.inr ⟨by rw [x], codes_lt ds es y⟩)
theorem codes_inj : ∀ (ds es : List Nat), codes ds = codes es → ds = es
  | [], [], _ => rfl
  | [], _ :: _, h => by simp [codes] at h
  | _ :: _, [], h => by simp [codes] at h
  | d :: ds, e :: es, h => by
    have h1 : d + 48 = e + 48 := (List.cons.inj h).1
    have h2 : codes ds = codes es := (List.cons.inj h).2
    rw [codes_inj ds es h2, show d = e by omega]
theorem numS_cps (ds : List Nat) : (numS ds).cps.toList = codes ds := rfl
theorem numS_inj {ds es : List Nat} (h : numS ds = numS es) : ds = es := codes_inj _ _ (by rw [← numS_cps, h, numS_cps])
theorem numS_len (ds : List Nat) : (numS ds).length = ds.length := by
  show (codes ds).toArray.size = _
  simp [codes]
theorem lt_asymm' {a b : List Nat} (h : a < b) : ¬ b < a := fun g => List.lt_irrefl _ (List.lt_trans h g)
theorem rowL_le : ∀ ds : List Nat, (∀ d ∈ ds, d ≤ 9) → (rowL ds).length ≤ 20 * ds.length + 2
  | [], _ => by decide
  | d :: ds, h => by
    have ih := rowL_le ds fun y m => h y (List.mem_cons_of_mem _ m)
    have hd := h d (by simp)
    show (blk d ++ ([0, 0] ++ rowL ds)).length ≤ _
    rw [List.length_append, List.length_append, blk_len]
    simp only [List.length_cons, List.length_nil]
    omega
end Wm

/-! Digits as signs, texts of digits cut and joined; what a heap keeps. -/
namespace Wm
open PySem L2
theorem dig_cases {d : Nat} (h : 1 ≤ d ∧ d ≤ 9) : d = 1 ∨ d = 2 ∨ d = 3 ∨ d = 4 ∨ d = 5 ∨ d = 6 ∨ d = 7 ∨ d = 8 ∨ d = 9 := by omega
theorem dig_int {d : Nat} (h : 1 ≤ d ∧ d ≤ 9) : PySem.intText? ⟨#[d + 48]⟩ = some (d : Int) := by
  rcases dig_cases h with e | e | e | e | e | e | e | e | e <;> subst e <;> decide +kernel
theorem dig_in {d : Nat} (h : 1 ≤ d ∧ d ≤ 9) : (d + 48) ∈ ("123456789" : Str).cps.toList := by
  rcases dig_cases h with e | e | e | e | e | e | e | e | e <;> subst e <;> decide +kernel
theorem dig_str {d : Nat} (h : 1 ≤ d ∧ d ≤ 9) : ((toString (d : Int) : String) : Str) = numS [d] := by
  rcases dig_cases h with e | e | e | e | e | e | e | e | e <;> subst e <;> decide +kernel
theorem numS_app (ds es : List Nat) : numS ds ++ numS es = numS (ds ++ es) := by
  refine PyProof.Rows.ext_toList ?_
  show ((numS ds).cps ++ (numS es).cps).toList = _
  rw [Array.toList_append, numS_cps, numS_cps, numS_cps]
  simp [codes]
theorem numS_nil : numS [] = ("" : Str) := by decide +kernel
theorem numS_take (ds : List Nat) (k : Nat) : cutS (numS ds) none (some (k : Int)) = numS (ds.take k) := by
  refine PyProof.Rows.ext_toList ?_
  show ((codes ds).drop 0).take (HT.sIx (numS ds).length (numS ds).length (some (k : Int)) - 0) = codes (ds.take k)
  rw [numS_len, HT.sIx_nat, List.drop_zero, Nat.sub_zero]
  simp only [codes, ← List.map_take]
  congr 1
  rw [List.take_eq_take_iff]
  omega
theorem numS_last (ds : List Nat) : cutS (numS ds) none (some (-1)) = numS ds.dropLast := by
  refine PyProof.Rows.ext_toList ?_
  show ((codes ds).drop 0).take (HT.sIx (numS ds).length (numS ds).length (some (-1)) - 0) = codes ds.dropLast
  rw [numS_len, List.drop_zero, Nat.sub_zero, List.dropLast_eq_take]
  simp only [codes, ← List.map_take]
  have e : HT.sIx ds.length ds.length (some (-1)) = ds.length - 1 := by
    unfold HT.sIx
    simp only [show (-1 : Int) < 0 by decide, if_true]
    omega
  rw [e]
theorem numS_at (ds : List Nat) (i : Nat) (hi : i < ds.length) : (numS ds).cps[i]? = some (ds[i] + 48) := by
  show ((codes ds).toArray)[i]? = _
  simp [codes, hi]
theorem numS_size (ds : List Nat) : (numS ds).cps.size = ds.length := numS_len ds

/-! heaps -/
theorem same_new {H : Hp} {p : Addr} {o : HO} (n : H p = none) : Same H (upd H p o) := fun b u e => by
  rw [upd_ne (ne_of_none e n)]
  exact e
theorem at_old {H : Hp} {p q : Addr} {o u : HO} (h : H p = some o) (n : H q = none) : upd H q u p = some o := by
  rw [upd_ne (ne_of_none h n)]
  exact h
theorem sameT {K : PySem.W.Frag} {H H' : Hp} {a : Addr} {xs : List V} (e : Same H H') (h : SqT K H a xs) : SqT K H' a xs := by
  rcases h with (h | ⟨o, h⟩) | h
  · exact .inl (.inl (e _ _ h))
  · exact .inl (.inr ⟨o, e _ _ h⟩)
  · exact .inr h
/-- what stood stands, but for what H did not know and the object at p, which is new since -/
theorem same_mut {H H' : Hp} {p : Addr} {o : HO} (s : Same H H') (n : H p = none) : Same H (upd H' p o) := fun b u e => by
  rw [upd_ne (ne_of_none e n)]
  exact s b u e
/-- the bag's list at b, its cells at c -/
def Cel (H : Hp) (b c : Addr) : Prop := ∃ x k m z : Int, H b = some (.lst [.int x, .ref c, .int k, .int m, .int z])
structure But (b : Addr) (H H' : Hp) : Prop where
  keep : ∀ p o, p ≠ b → H p = some o → H' p = some o
  cel : ∀ c, Cel H b c → Cel H' b c
instance {b : Addr} {H H' : Hp} : CoeFun (But b H H') (fun _ => ∀ p o, p ≠ b → H p = some o → H' p = some o) := ⟨But.keep⟩
theorem But.refl (b : Addr) (H : Hp) : But b H H := ⟨fun _ _ _ h => h, fun _ h => h⟩
theorem But.trans {b : Addr} {H H1 H2 : Hp} (x : But b H H1) (y : But b H1 H2) : But b H H2 := ⟨fun p o n h => y.keep p o n (x.keep p o n h), fun c h => y.cel c (x.cel c h)⟩
theorem But.of {b : Addr} {H H' : Hp} (s : Same H H') : But b H H' := ⟨fun p o _ h => s p o h, fun _ ⟨x, k, m, z, h⟩ => ⟨x, k, m, z, s _ _ h⟩⟩
theorem But.set {b c : Addr} {H : Hp} {x k m z x' k' m' z' : Int} (hb : H b = some (.lst [.int x, .ref c, .int k, .int m, .int z])) : But b H (upd H b (.lst [.int x', .ref c, .int k', .int m', .int z'])) :=
  ⟨fun p u n h => by
    rw [upd_ne n]
    exact h, fun c2 ⟨a1, a2, a3, a4, h⟩ => by
    rw [hb] at h
    have h := Option.some.inj h
    injection h with h
    injection h with h1 h
    injection h with h2 h
    injection h2 with h2
    subst h2
    exact ⟨x', k', m', z', upd_same⟩⟩
/-- the bag of draws: its cells' list and its four numbers -/
def Bag (H : Hp) (b : Addr) (n : Nat) : Prop :=
  ∃ (c : Addr) (x k m z : Int) (ns : List Int), H b = some (.lst [.int x, .ref c, .int k, .int m, .int z]) ∧ H c = some (.lst (ns.map V.int)) ∧ 0 ≤ k ∧ 0 ≤ m ∧ m ≤ (n : Int)
theorem bag_ne {H : Hp} {b c : Addr} {x k m z : Int} {ns : List Int} (hb : H b = some (.lst [.int x, .ref c, .int k, .int m, .int z])) (hc : H c = some (.lst (ns.map V.int))) : c ≠ b := by
  intro e
  subst e
  rw [hb] at hc
  have q := Option.some.inj hc
  have q2 : ([.int x, .ref c, .int k, .int m, .int z] : List V) = ns.map V.int := by injection q
  cases ns with
  | nil => simp at q2
  | cons u r => cases r with
    | nil => simp at q2
    | cons v r => simp at q2
theorem Bag.mono {H : Hp} {b : Addr} {n m : Nat} (h : Bag H b n) (l : n ≤ m) : Bag H b m := by
  obtain ⟨c, x, k, q, z, ns, h1, h2, h3, h4, h5⟩ := h
  exact ⟨c, x, k, q, z, ns, h1, h2, h3, h4, by omega⟩
theorem Bag.keep {H H' : Hp} {b : Addr} {n : Nat} (h : Bag H b n) (s : Same H H') : Bag H' b n := by
  obtain ⟨c, x, k, q, z, ns, h1, h2, h3, h4, h5⟩ := h
  exact ⟨c, x, k, q, z, ns, s _ _ h1, s _ _ h2, h3, h4, h5⟩
theorem Cel.uniq {H : Hp} {b c d : Addr} (h : Cel H b c) (g : Cel H b d) : c = d := by
  obtain ⟨x, k, m, z, h⟩ := h
  obtain ⟨x', k', m', z', g⟩ := g
  rw [h] at g
  have g := Option.some.inj g
  injection g with g
  injection g with g1 g
  injection g with g2 g
  injection g2
theorem But.put {b D : Addr} {H H' : Hp} {o : HO} (e : But b H H') (n : H D = none) : But b H (upd H' D o) := by
  refine ⟨fun p u pb h => ?_, fun c h => ?_⟩
  · rw [upd_ne (ne_of_none h n)]
    exact e.keep p u pb h
  · have h0 := h
    obtain ⟨x, k, m, z, h⟩ := h
    obtain ⟨x', k', m', z', g⟩ := e.cel c h0
    exact ⟨x', k', m', z', by rw [upd_ne (ne_of_none h n)]; exact g⟩
theorem Bag.put {b D : Addr} {H H' : Hp} {o : HO} {n m : Nat} (bag : Bag H b n) (f : H D = none) (e : But b H H') (bag2 : Bag H' b m) : Bag (upd H' D o) b m := by
  obtain ⟨c, x, k, q, z, ns, h1, h2, h3, h4, h5⟩ := bag
  obtain ⟨c', x', k', q', z', ns', g1, g2, g3, g4, g5⟩ := bag2
  have ec : c = c' := Cel.uniq (e.cel c ⟨x, k, q, z, h1⟩) ⟨x', k', q', z', g1⟩
  subst ec
  exact ⟨c, x', k', q', z', ns', by rw [upd_ne (ne_of_none h1 f)]; exact g1, by rw [upd_ne (ne_of_none h2 f)]; exact g2, g3, g4, g5⟩
end Wm
namespace Wm
open PySem L2
theorem yesT {σ : L2.St} {H : Hp} {A B : Hp → Prop} (h : A H) : tYes σ H (fun b H3 => if b = true then A H3 else B H3) := by
  show (if true = true then A H else B H)
  rw [if_pos rfl]
  exact h
end Wm

/-! row[::2] of a list or a tuple; a loop over a list or a tuple. -/
namespace Hf
open PySem PySem.Spec PyProof.Rows L2
def ev2 {α : Type} : List α → List α
  | [] => []
  | [x] => [x]
  | x :: _ :: r => x :: ev2 r
theorem ev2_le {α : Type} : ∀ xs : List α, (ev2 xs).length ≤ xs.length
  | [] => Nat.le_refl _
  | [_] => Nat.le_refl _
  | x :: y :: r => by
    have ih := ev2_le r
    show (ev2 r).length + 1 ≤ r.length + 2
    omega
theorem ev2_mem {α : Type} {z : α} : ∀ {xs : List α}, z ∈ ev2 xs → z ∈ xs
  | [], h => h
  | [_], h => h
  | x :: y :: r, h => by
    rcases List.mem_cons.mp h with e | e
    · rw [e]; simp
    · exact List.mem_cons_of_mem _ (List.mem_cons_of_mem _ (ev2_mem e))
theorem ev2_map {α β : Type} (f : α → β) : ∀ xs : List α, ev2 (xs.map f) = (ev2 xs).map f
  | [] => rfl
  | [_] => rfl
  | x :: y :: r => by
    show f x :: ev2 (r.map f) = f x :: (ev2 r).map f
    rw [ev2_map f r]
theorem ev2_pick {α : Type} : ∀ xs : List α, (List.range ((xs.length + 1) / 2)).filterMap (fun k => xs[2 * k]?) = ev2 xs
  | [] => by simp [ev2]
  | [x] => by
    rw [show ([x].length + 1) / 2 = 1 by simp, show List.range 1 = [0] by decide]
    simp [ev2]
  | x :: y :: r => by
    have ih := ev2_pick r
    have e : ((x :: y :: r).length + 1) / 2 = (r.length + 1) / 2 + 1 := by
      show (r.length + 1 + 1 + 1) / 2 = _
      omega
    rw [e, List.range_succ_eq_map, List.filterMap_cons]
    show x :: _ = x :: ev2 r
    rw [List.filterMap_map, ← ih]
    rfl
theorem ev2_vals : ∀ {xs : List V} {us : List Value}, Vals xs us → Vals (ev2 xs) (ev2 us)
  | [], _, h => by cases h; exact .nil
  | [x], _, h => by
    cases h with
    | cons a b =>
      cases b
      exact .cons a .nil
  | x :: y :: r, _, h => by
    cases h with
    | cons a b =>
      cases b with
      | cons c d => exact .cons a (ev2_vals d)
theorem pick2 (items : Array Value) : slicePick items none none (some 2) = (ev2 items.toList).toArray := by
  have e := ev2_pick items.toList
  unfold slicePick
  have b : sliceBounds none none (some 2) items.size = (0, (items.size : Int), 2) := by
    first
    | rfl
    | simp [sliceBounds]
  rw [b]
  show ((sliceRange 0 (items.size : Int) 2).filterMap (items[·]?)).toArray = _
  have r : sliceRange 0 (items.size : Int) 2 = (List.range ((items.size + 1) / 2)).map fun k => 2 * k := by
    unfold sliceRange
    have h1 : (2 : Int) > 0 := by decide
    by_cases h : (0 : Int) < (items.size : Int)
    · have e : ((items.size : Int) - 0 + 2 - 1) / 2 = (((items.size + 1) / 2 : Nat) : Int) := by omega
      simp only [h1, if_true, h, e, Int.toNat_natCast]
      apply List.map_congr_left
      intro k _
      omega
    · have e : items.size = 0 := by omega
      simp [e]
  rw [r, List.filterMap_map]
  rw [Array.length_toList] at e
  rw [← e]
  refine congrArg List.toArray (congrArg (fun f => List.filterMap f _) (funext fun k => ?_))
  show items[2 * k]? = _
  rw [Array.getElem?_toList]
section
variable {prog : Program} {w : World} {A : Around} {E : Value → Shared → Prop} {s : Shared}
theorem places2 (n : Nat) : Builtin.Slice.slicePlaces 0 (n : Int) 2 = (n + 1) / 2 := by
  unfold Builtin.Slice.slicePlaces
  have h1 : (2 : Int) > 0 := by omega
  simp only [h1, if_true]
  split <;> omega
theorem adjust2 (n : Nat) : Builtin.Slice.sliceAdjust none none 2 (n : Int) = (0, (n : Int)) := by
  have h1 : ¬ ((2 : Int) < 0) := by omega
  unfold Builtin.Slice.sliceAdjust
  simp only [h1, if_false]
theorem sliceApplied2 {sl : Addr} {t : Tok} {n : Nat} {Q : Int × Int × Nat → Shared → Prop} (hs : s.heap.IsSliceOf sl .none .none (.int 2 t))
    (h : Q (0, 2, (n + 1) / 2) s) : wpAny (model prog w) A (Builtin.Slice.sliceApplied (.ref sl) (pure (n : Int))) Q E s := by
  obtain ⟨os, hos, hcs, hds⟩ := id hs
  unfold Builtin.Slice.sliceApplied Builtin.Slice.sliceFields
  refine wpAny_bind (wpAny_bind (wpAny_field hos hds (x := .none) rfl (wpAny_bind (wpAny_field hos hds (x := .none) rfl (wpAny_bind (wpAny_field hos hds (x := .int 2 t) rfl (wpAny_pure ?_)))))))
  refine wpAny_bind (slicePart_int ?_)
  show wpAny _ _ (if ((2 : Int) == 0) = true then _ else _) _ _ s
  rw [if_neg (by decide)]
  refine wpAny_bind (HT.slicePart_ .none (wpAny_bind (HT.slicePart_ .none (wpAny_bind (wpAny_pure ?_)))))
  show wpAny _ _ (match Builtin.Slice.sliceAdjust none none 2 (n : Int) with | (lo, hi) => pure (lo, (2 : Int), Builtin.Slice.slicePlaces lo hi 2)) _ _ s
  rw [adjust2 n]
  show wpAny _ _ (pure ((0 : Int), (2 : Int), Builtin.Slice.slicePlaces (0 : Int) (n : Int) 2)) _ _ s
  rw [places2]
  exact wpAny_pure h
theorem pick2t (xs : Array Value) : ((List.range ((xs.size + 1) / 2)).filterMap fun (m : Nat) => xs[((0 : Int) + (m : Int) * 2).toNat]?).toArray = (ev2 xs.toList).toArray := by
  have e : (fun (m : Nat) => xs[((0 : Int) + (m : Int) * 2).toNat]?) = fun m => xs.toList[2 * m]? := by
    funext m
    have : ((0 : Int) + (m : Int) * 2).toNat = 2 * m := by omega
    rw [this, Array.getElem?_toList]
  rw [e, ← ev2_pick xs.toList, Array.length_toList]
theorem getItem_tuple_2 {t sl : Addr} {tk : Tok} {items : Array Value} {Q : Value → Shared → Prop} (ht : IsTup s.heap t items) (hs : s.heap.IsSliceOf sl .none .none (.int 2 tk))
    (h : Q (.ref s.heap.objs.size) { s with heap := s.heap.push { cls := .type "tuple", data := .seq (ev2 items.toList).toArray } })
    (hsz : items.size ≤ sizeLine) : wpAny (model prog w) A (getItem (.ref t) (.ref sl)) Q E s := by
  have htake : sizeOk (.seq (ev2 items.toList).toArray) := by
    show (ev2 items.toList).toArray.size ≤ sizeLine
    rw [List.size_toArray]
    exact Nat.le_trans (ev2_le items.toList) (by rw [Array.length_toList]; exact hsz)
  obtain ⟨os, hos, hcs, hds⟩ := id hs
  have hTs : s.TypeIs (.ref sl) "slice" := ⟨os, hos, hcs⟩
  unfold getItem
  try with_reducible refine wpAny_holding ?_
  first | refine wpAny_bind (wpAny_pure ?_) | skip
  refine wpAny_bind (wpAny_sequenceKey ht.typeIs (by decide) ?_)
  refine wpAny_bind (wpAny_callSpecial?_slot (name := Str.ofString "__getitem__") ht.typeIs PyProof.Rows.slot_tuple_getitem
    (wpAny_call_entry PyProof.Rows.slot_tuple_getitem ht.typeIs entry_tuple_getitem ?_ (args_tuple_getitem _ _)))
  show wpAny _ _ (Builtin.Tuple.tupleItemsOf (.ref t) >>= _) _ _ s
  refine wpAny_bind (tupleItemsOf_ ht ?_)
  refine wpAny_bind (wpAny_typeOf hTs ?_)
  rw [if_pos (by decide)]
  refine wpAny_bind (sliceApplied2 hs ?_)
  have hno : ¬ (((0 : Int) == 0 && (2 : Int) == 1 && ((items.size + 1) / 2) == items.size) = true) := by
    intro q
    rw [Bool.and_eq_true, Bool.and_eq_true] at q
    exact absurd q.1.2 (by decide)
  show wpAny _ _ (if ((0 : Int) == 0 && (2 : Int) == 1 && ((items.size + 1) / 2) == items.size) = true then _ else _) _ _ s
  rw [if_neg hno, pick2t]
  first
    | exact wpAny_bind (m := Builtin.Tuple.tupleExact _) (wpAny_newObj_type (wpAny_pure ⟨_, rfl, wpAny_pure h⟩) htake)
    | exact wpAny_bind (m := Builtin.Tuple.tupleExact _) (wpAny_newObj_type (wpAny_bind (wpAny_pure (wpAny_pure ⟨_, rfl, wpAny_pure h⟩))) htake)
    | exact wpAny_bind (wpAny_bind (m := Builtin.Tuple.tupleExact _) (wpAny_newObj_type (wpAny_pure (wpAny_pure ⟨_, rfl, wpAny_pure h⟩)) htake))
    | exact wpAny_bind (wpAny_bind (m := Builtin.Tuple.tupleExact _) (wpAny_newObj_type (wpAny_pure ⟨_, rfl, wpAny_pure h⟩) htake))
end
section
variable {X : Cx}
def tHalf (K : PySem.W.Frag) (te : TE) : TE := fun σ H Q => te σ H fun x H1 => ∃ a xs, x = .ref a ∧ (SqL K H1 a xs ∨ SqT K H1 a xs) ∧
  ∀ p H2, (∀ b o, H1 b = some o → H2 b = some o) → H1 p = none → (SqL K H2 p (ev2 xs) ∨ SqT K H2 p (ev2 xs)) → Q (.ref p) H2
theorem new_same {H : Hp} {p : Addr} {o : HO} (n : H p = none) : ∀ b u, H b = some u → upd H p o b = some u := fun b u e => by
  rw [upd_ne (ne_of_none e n)]
  exact e
theorem pe_half {e : Expr} {te : TE} {k : Nat} {p1 p3 pos : Pos} (he : PE X e te) : PE X (.Subscript e (.Slice none none (some (.Constant (.int 2) k p1)) p3) pos) (tHalf X.K te) := by
  refine ⟨fun pins s σ H Q I h => ?_⟩
  refine Subscript_ (thn (he.run pins s σ H _ I h) fun v s1 ⟨x, H1, I1, r1, q1⟩ => ?_)
  obtain ⟨a, xs, ex, hq, q⟩ := q1
  subst ex
  cases r1
  have hst : PO X (some (.Constant (.int 2) k p1)) (tPart (tC (.int 2))) := po_some pe_int
  refine wpAny_Slice (thn (po_none.run pins s1 σ H1 (fun o H2 => o = none ∧ H2 = H1) I1 ⟨rfl, rfl⟩) fun vl s2 ⟨l, H2, I2, pl, el, e2⟩ => ?_)
  subst el e2
  refine thn (po_none.run pins s2 σ H2 (fun o H3 => o = none ∧ H3 = H2) I2 ⟨rfl, rfl⟩) fun vu s3 ⟨u, H3, I3, pu, eu, e3⟩ => ?_
  subst eu e3
  refine thn (hst.run pins s3 σ H3 (fun o H4 => o = some 2 ∧ H4 = H3) I3 ⟨2, rfl, rfl, rfl⟩) fun vs s4 ⟨o, H4, I4, ps, eo, e4⟩ => ?_
  subst eo e4
  have I5 : Inv X pins σ H4 { s4 with heap := s4.heap.push { cls := .type "slice", data := .fields #[vl, vu, vs] } } := I4.kept (t' := s4.toks) fun b ob q => Heap.get?_push_of_some _ q
  rcases hq with hx | hx
  · obtain ⟨its, r, ht, hz⟩ := I5.list hx
    have hlen := r.length
    show wpAny (model X.prog X.w) X.A (subscriptTail e (.Slice none none (some (.Constant (.int 2) k p1)) p3) (.ref a) (.ref s4.heap.objs.size)) (EP X pins σ Q) X.xe { s4 with heap := s4.heap.push { cls := .type "slice", data := .fields #[vl, vu, vs] } }
    refine tail_any (ops := [.ref a, .ref s4.heap.objs.size]) ht.isList.typeIs (PySem.slot_list_getitem.lookup) ?_ (by with_unfolding_all rfl)
    refine wpAny_getItem_list_slice ht.isList (Heap.IsSliceOf.new _ vl vu vs) pl pu ps (by decide) ?_ (by rw [List.size_toArray]; omega)
    rw [pick2]
    refine ⟨.ref _, _, I5.laid (t' := s4.toks) (o := .lst (ev2 xs)) (fun b ob q => Heap.get?_push_of_some _ q) (Nat.le_refl _) ?_, rfl, q _ _ (new_same (I5.hok.fresh (Nat.le_refl _))) (I5.hok.fresh (Nat.le_refl _)) (.inl (SqL.of upd_same))⟩
    exact ⟨Nat.le_trans (ev2_le xs) hz, _, 0, ev2_vals r, Heap.get?_push_size _ rfl⟩
  · obtain ⟨its, r, ht, hz⟩ := I5.tuple hx
    have hlen := r.length
    cases pl
    cases pu
    cases ps
    show wpAny (model X.prog X.w) X.A (subscriptTail e (.Slice none none (some (.Constant (.int 2) k p1)) p3) (.ref a) (.ref s4.heap.objs.size)) (EP X pins σ Q) X.xe { s4 with heap := s4.heap.push { cls := .type "slice", data := .fields #[Value.none, Value.none, .int 2 _] } }
    refine tail_any (ops := [.ref a, .ref s4.heap.objs.size]) ht.typeIs (PyProof.Rows.slot_tuple_getitem.lookup) ?_ (by with_unfolding_all rfl)
    refine getItem_tuple_2 ht (Heap.IsSliceOf.new _ _ _ _) ?_ (by rw [List.size_toArray]; omega)
    refine ⟨.ref _, _, I5.laid (t' := s4.toks) (o := .tup (ev2 xs)) (fun b ob q => Heap.get?_push_of_some _ q) (Nat.le_refl _) ?_, rfl, q _ _ (new_same (I5.hok.fresh (Nat.le_refl _))) (I5.hok.fresh (Nat.le_refl _)) (.inr (SqT.of upd_same))⟩
    exact ⟨Nat.le_trans (ev2_le xs) hz, _, ev2_vals r, IsTup.new _ _⟩
theorem keepL {K : PySem.W.Frag} {H H' : Hp} {a : Addr} {xs : List V} (e : Same H H') (h : SqL K H a xs) : SqL K H' a xs := by
  rcases h with (h | ⟨o, h⟩) | h
  · exact .inl (.inl (e _ _ h))
  · exact .inl (.inr ⟨o, e _ _ h⟩)
  · exact .inr h
theorem keepT {K : PySem.W.Frag} {H H' : Hp} {a : Addr} {xs : List V} (e : Same H H') (h : SqT K H a xs) : SqT K H' a xs := by
  rcases h with (h | ⟨o, h⟩) | h
  · exact .inl (.inl (e _ _ h))
  · exact .inl (.inr ⟨o, e _ _ h⟩)
  · exact .inr h
def iSeq (K : PySem.W.Frag) (tl : TE) : TI := fun σ H R => tl σ H fun x H1 => ∃ a xs, x = .ref a ∧ (SqL K H1 a xs ∨ SqT K H1 a xs) ∧
  ∀ J G, Walk J xs.length G (YAt xs) → (∀ H', Same H1 H' → G H') → R J H1
theorem pi_seq {tg l : Expr} {tl : TE} (hl : PE X l tl) : PI X tg l (iSeq X.K tl) := by
  refine ⟨fun pins s σ H R I h => ?_⟩
  refine thn (hl.run pins s σ H _ I h) fun v s1 ⟨x, H1, I1, r1, q1⟩ => ?_
  obtain ⟨a, xs, e, hq, q⟩ := q1
  subst e
  cases r1
  rcases hq with hq | hq
  · have q := q _ _ walk_list fun H' s => keepL s hq
    obtain ⟨its, rv, p, hz⟩ := I1.list hq
    refine wpAny_pyIter_list p.isList ?_
    refine ⟨s1.heap.objs.size, [s1.heap.objs.size], _, _, H1, rfl, I1.kept (t' := s1.toks) fun b o e => Heap.get?_push_of_some _ e, turn_list a _, ⟨_, Heap.get?_push_size _ rfl, rfl, rfl⟩, fun b hb => ?_, q⟩
    have e : b = s1.heap.objs.size := by simpa using hb
    subst e
    exact I1.fpOk (Nat.le_refl _) (I1.hok.fresh (Nat.le_refl _))
  · have q := q _ _ walk_tup fun H' s => keepT s hq
    obtain ⟨its, rv, p, hz⟩ := I1.tuple hq
    refine wpAny_pyIter_tuple (show s1.heap.IsTuple a its.toArray from p) ?_
    refine ⟨s1.heap.objs.size, [s1.heap.objs.size], _, _, H1, rfl, I1.kept (t' := s1.toks) fun b o e => Heap.get?_push_of_some _ e, turn_tuple a _, ⟨_, Heap.get?_push_size _ rfl, rfl, rfl⟩, fun b hb => ?_, q⟩
    have e : b = s1.heap.objs.size := by simpa using hb
    subst e
    exact I1.fpOk (Nat.le_refl _) (I1.hok.fresh (Nat.le_refl _))
end
end Hf

/-! Rows read back: strokes, steps, groups. -/
namespace Wm
open PySem L2 TL
/-- the rows of the first digits, without the two ticks at the end -/
def pre : List Nat → List Int
  | [] => []
  | d :: ds => blk d ++ ([0, 0] ++ pre ds)
theorem pre_app : ∀ (ds : List Nat) (d : Nat), pre (ds ++ [d]) = pre ds ++ (blk d ++ [0, 0])
  | [], d => by show blk d ++ ([0, 0] ++ []) = [] ++ _; simp
  | e :: ds, d => by
    show blk e ++ ([0, 0] ++ pre (ds ++ [d])) = (blk e ++ ([0, 0] ++ pre ds)) ++ _
    rw [pre_app ds d]
    simp only [List.append_assoc]
theorem pre_row : ∀ ds : List Nat, pre ds ++ [0, 0] = rowL ds
  | [] => rfl
  | d :: ds => by
    show (blk d ++ ([0, 0] ++ pre ds)) ++ _ = blk d ++ ([0, 0] ++ rowL ds)
    rw [← pre_row ds]
    simp only [List.append_assoc]
theorem blk_V (d : Nat) : (List.replicate d [V.int 1, V.int 0]).flatten = (blk d).map V.int := by
  unfold blk
  rw [List.map_flatten, List.map_replicate]
  rfl
theorem pre_le : ∀ ds : List Nat, (∀ d ∈ ds, d ≤ 9) → (pre ds).length ≤ 20 * ds.length
  | [], _ => by decide
  | d :: ds, h => by
    have ih := pre_le ds fun y m => h y (List.mem_cons_of_mem _ m)
    have hd := h d (by simp)
    show (blk d ++ ([0, 0] ++ pre ds)).length ≤ _
    rw [List.length_append, List.length_append, blk_len]
    simp only [List.length_cons, List.length_nil]
    omega
theorem take_succ_app {α : Type} {l : List α} {i : Nat} {x : α} (h : l[i]? = some x) : l.take (i + 1) = l.take i ++ [x] := by
  rw [List.take_add_one, h]
  rfl
theorem take_succ_map {α β : Type} {l : List α} {i : Nat} {x : α} (f : α → β) (h : l[i]? = some x) : (l.take i).map f ++ [f x] = (l.take (i + 1)).map f := by
  rw [take_succ_app h, List.map_append]
  rfl
theorem row_sum : ∀ ds : List Nat, (rowL ds).length = 2 * (ds.sum + ds.length + 1)
  | [] => rfl
  | d :: ds => by
    have ih := row_sum ds
    show (blk d ++ ([0, 0] ++ rowL ds)).length = _
    rw [List.length_append, List.length_append, blk_len, ih, List.sum_cons]
    simp only [List.length_cons, List.length_nil]
    omega
theorem row_le (ds : List Nat) (N : Num ds) : (rowL ds).length ≤ 100 := by
  have h := rowL_le ds fun d m => (N.dig d m).2
  have l := N.len
  omega
theorem row_bits : ∀ (ds : List Nat) (z : Int), z ∈ rowL ds → z = 0 ∨ z = 1
  | [], z, h => by
    have h : z ∈ [0, 0] := h
    simp only [List.mem_cons, List.not_mem_nil, or_false, or_self] at h
    exact .inl h
  | d :: ds, z, h => by
    have h : z ∈ blk d ++ ([0, 0] ++ rowL ds) := h
    rw [List.mem_append, List.mem_append] at h
    rcases h with h | h | h
    · obtain ⟨l, hl, hz⟩ := List.mem_flatten.mp h
      rw [(List.mem_replicate.mp hl).2] at hz
      simp only [List.mem_cons, List.not_mem_nil, or_false] at hz
      exact hz.symm
    · simp only [List.mem_cons, List.not_mem_nil, or_false, or_self] at h
      exact .inl h
    · exact row_bits ds z h
/-! strokes -/
def ones : Nat → List Int → List Nat
  | _, [] => []
  | o, x :: xs => if x = 1 then o :: ones (o + 1) xs else ones (o + 1) xs
theorem ones_app : ∀ (a : List Int) (o : Nat) (b : List Int), ones o (a ++ b) = ones o a ++ ones (o + a.length) b
  | [], o, b => rfl
  | x :: a, o, b => by
    have ih := ones_app a (o + 1) b
    have e : o + (x :: a).length = o + 1 + a.length := by rw [List.length_cons]; omega
    rw [e]
    show (if x = 1 then o :: ones (o + 1) (a ++ b) else ones (o + 1) (a ++ b)) = (if x = 1 then o :: ones (o + 1) a else ones (o + 1) a) ++ _
    rw [ih]
    by_cases c : x = 1
    · rw [if_pos c, if_pos c]; rfl
    · rw [if_neg c, if_neg c]
theorem ones_mem : ∀ (xs : List Int) (o k : Nat), k ∈ ones o xs ↔ ∃ j, k = o + j ∧ xs[j]? = some 1
  | [], o, k => by simp [ones]
  | x :: xs, o, k => by
    have ih := ones_mem xs (o + 1) k
    show k ∈ (if x = 1 then o :: ones (o + 1) xs else ones (o + 1) xs) ↔ _
    constructor
    · intro h
      by_cases c : x = 1
      · rw [if_pos c] at h
        rcases List.mem_cons.mp h with e | e
        · exact ⟨0, by omega, by rw [c]; rfl⟩
        · obtain ⟨j, e1, e2⟩ := ih.mp e
          exact ⟨j + 1, by omega, by simpa using e2⟩
      · rw [if_neg c] at h
        obtain ⟨j, e1, e2⟩ := ih.mp h
        exact ⟨j + 1, by omega, by simpa using e2⟩
    · rintro ⟨j, e1, e2⟩
      cases j with
      | zero =>
        have c : x = 1 := Option.some.inj e2
        rw [if_pos c]
        exact List.mem_cons.mpr (.inl (by omega))
      | succ j =>
        have m : k ∈ ones (o + 1) xs := ih.mpr ⟨j, by omega, by simpa using e2⟩
        by_cases c : x = 1
        · rw [if_pos c]; exact List.mem_cons_of_mem _ m
        · rw [if_neg c]; exact m
theorem ones_blk (o d : Nat) : ones o (blk (d + 1)) = ones o (blk d) ++ [o + 2 * d] := by
  rw [blk_add, ones_app, blk_len]
  rfl
theorem ones_end (a : List Int) (o : Nat) : ones o (a ++ [0, 0]) = ones o a := by
  rw [ones_app]
  show ones o a ++ [] = _
  rw [List.append_nil]
theorem step2 (s : List Nat) (d : Nat) : ones 0 (pre s ++ blk (d + 1)) = ones 0 (pre s ++ blk d) ++ [(pre s).length + 2 * d] := by
  rw [ones_app, ones_app, ones_blk, List.append_assoc, Nat.zero_add]
theorem step4 (s : List Nat) (d : Nat) : ones 0 (pre (s ++ [d]) ++ blk 1) = ones 0 (pre s ++ blk d) ++ [(pre s).length + 2 * d + 2] := by
  rw [ones_app, pre_app, ← List.append_assoc, ones_end]
  have e : ((pre s ++ blk d) ++ ([0, 0] : List Int)).length = (pre s).length + 2 * d + 2 := by
    rw [List.length_append, List.length_append, blk_len]
    rfl
  rw [e, Nat.zero_add]
  rfl
theorem ones_row (s : List Nat) (d : Nat) : ones 0 (rowL (s ++ [d])) = ones 0 (pre s ++ blk d) := by
  rw [← pre_row, pre_app, ← List.append_assoc, ones_end, ones_end]
theorem ones_inj {ds es : List Nat} (h1 : ∀ d ∈ ds, 1 ≤ d) (h2 : ∀ e ∈ es, 1 ≤ e) (h : ones 0 (rowL ds) = ones 0 (rowL es)) : ds = es := by
  rcases rows_part ds es h1 h2 with q | ⟨k, q, _⟩ | ⟨k, q, _⟩
  · exact q
  · have m : k ∈ ones 0 (rowL ds) := (ones_mem _ _ _).mpr ⟨k, by omega, q.one⟩
    rw [h] at m
    obtain ⟨j, e1, e2⟩ := (ones_mem _ _ _).mp m
    rw [show j = k by omega, q.two] at e2
    cases e2
  · have m : k ∈ ones 0 (rowL es) := (ones_mem _ _ _).mpr ⟨k, by omega, q.two⟩
    rw [← h] at m
    obtain ⟨j, e1, e2⟩ := (ones_mem _ _ _).mp m
    rw [show j = k by omega, q.one] at e2
    cases e2
def St (l : List Nat) : Prop := ∀ (k a b : Nat), l[k]? = some a → l[k + 1]? = some b → b = a + 2 ∨ b = a + 4
theorem St.cons {x : Nat} {l : List Nat} (h : ∀ y, l.head? = some y → y = x + 2 ∨ y = x + 4) (s : St l) : St (x :: l) := by
  intro k a b e1 e2
  cases k with
  | zero =>
    have e : x = a := Option.some.inj e1
    subst e
    refine h b ?_
    rw [List.head?_eq_getElem?]
    exact e2
  | succ k => exact s k a b (by simpa using e1) (by simpa using e2)
theorem steps_blk {l : List Int} (hl : ∀ o, St (ones o l) ∧ ∀ y, (ones o l).head? = some y → y = o) : ∀ (d o : Nat), St (ones o (blk d ++ ([0, 0] ++ l))) ∧ ∀ y, (ones o (blk d ++ ([0, 0] ++ l))).head? = some y → (y = o ∨ y = o + 2)
  | 0, o => by
    have h := hl (o + 2)
    exact ⟨h.1, fun y e => .inr (h.2 y e)⟩
  | d + 1, o => by
    have ih := steps_blk hl d (o + 2)
    have e : ones o (blk (d + 1) ++ ([0, 0] ++ l)) = o :: ones (o + 2) (blk d ++ ([0, 0] ++ l)) := by
      rw [blk_succ]
      rfl
    rw [e]
    refine ⟨ih.1.cons fun y q => ?_, fun y q => .inl (Option.some.inj q).symm⟩
    rcases ih.2 y q with z | z
    · exact .inl z
    · exact .inr (by omega)
theorem steps_row : ∀ (es : List Nat), (∀ d ∈ es, 1 ≤ d) → ∀ o, St (ones o (rowL es)) ∧ ∀ y, (ones o (rowL es)).head? = some y → y = o
  | [], _, o => ⟨fun k a b (e : (none : Option Nat) = some a) => (by cases e), fun y (e : (none : Option Nat) = some y) => by cases e⟩
  | d :: es, h, o => by
    have ih := steps_row es fun y m => h y (List.mem_cons_of_mem _ m)
    obtain ⟨f, rfl⟩ : ∃ f, d = f + 1 := ⟨d - 1, by have := h d (by simp); omega⟩
    have q := steps_blk ih (f + 1) o
    refine ⟨q.1, fun y e => ?_⟩
    have e' : ones o (rowL ((f + 1) :: es)) = o :: ones (o + 2) (blk f ++ ([0, 0] ++ rowL es)) := by
      show ones o (blk (f + 1) ++ _) = _
      rw [blk_succ]
      rfl
    rw [e'] at e
    exact (Option.some.inj e).symm
theorem first_row (d : Nat) (es : List Nat) (h : 1 ≤ d) : (ones 0 (rowL (d :: es)))[0]? = some 0 := by
  obtain ⟨f, rfl⟩ : ∃ f, d = f + 1 := ⟨d - 1, by omega⟩
  show (ones 0 (blk (f + 1) ++ _))[0]? = _
  rw [blk_succ]
  rfl
/-! groups -/
def gaps : List Int → List Nat
  | [] => [0]
  | z :: zs => if z = 1 then (match gaps zs with | [] => [1] | g :: gs => (g + 1) :: gs) else 0 :: gaps zs
theorem gaps_ne : ∀ zs, gaps zs ≠ []
  | [] => by simp [gaps]
  | z :: zs => by
    show (if z = 1 then (match gaps zs with | [] => [1] | g :: gs => (g + 1) :: gs) else 0 :: gaps zs) ≠ []
    by_cases c : z = 1
    · rw [if_pos c]
      split <;> simp
    · rw [if_neg c]; simp
def bits (zs : List Int) : List Nat := zs.map fun z => if z = 1 then 49 else 48
theorem joinL_cons {s : List Nat} {p : List Nat} {ps : List (List Nat)} (h : ps ≠ []) : joinL s (p :: ps) = p ++ (s ++ joinL s ps) := by
  cases ps with
  | nil => exact absurd rfl h
  | cons q r => rfl
theorem joinL_one (s p : List Nat) : joinL s [p] = p := rfl
theorem map_ne {α β : Type} {f : α → β} {l : List α} (h : l ≠ []) : l.map f ≠ [] := fun e => h (List.map_eq_nil_iff.mp e)
theorem gaps_join : ∀ zs, bits zs = joinL [48] ((gaps zs).map fun g => List.replicate g 49)
  | [] => rfl
  | z :: zs => by
    have ih := gaps_join zs
    have ne := gaps_ne zs
    show (if z = 1 then 49 else 48) :: bits zs = joinL [48] ((if z = 1 then (match gaps zs with | [] => [1] | g :: gs => (g + 1) :: gs) else 0 :: gaps zs).map _)
    by_cases c : z = 1
    · rw [if_pos c, if_pos c]
      cases e : gaps zs with
      | nil => exact absurd e ne
      | cons g gs =>
        rw [e] at ih
        rw [ih]
        cases gs with
        | nil => rfl
        | cons g2 gs => rfl
    · rw [if_neg c, if_neg c, List.map_cons, joinL_cons (map_ne ne), ← ih]
      rfl
theorem gaps_sum : ∀ zs, (gaps zs).sum ≤ zs.length ∧ (gaps zs).length ≤ zs.length + 1
  | [] => by decide
  | z :: zs => by
    have ih := gaps_sum zs
    show (if z = 1 then (match gaps zs with | [] => [1] | g :: gs => (g + 1) :: gs) else 0 :: gaps zs).sum ≤ zs.length + 1 ∧ (if z = 1 then (match gaps zs with | [] => [1] | g :: gs => (g + 1) :: gs) else 0 :: gaps zs).length ≤ zs.length + 1 + 1
    by_cases c : z = 1
    · rw [if_pos c]
      cases e : gaps zs with
      | nil => exact absurd e (gaps_ne zs)
      | cons g gs =>
        rw [e, List.sum_cons, List.length_cons] at ih
        show ((g + 1) :: gs).sum ≤ _ ∧ ((g + 1) :: gs).length ≤ _
        rw [List.sum_cons, List.length_cons]
        omega
    · rw [if_neg c, List.sum_cons, List.length_cons]
      omega
theorem mem_sum {g : Nat} : ∀ {l : List Nat}, g ∈ l → g ≤ l.sum
  | a :: l, h => by
    rw [List.sum_cons]
    rcases List.mem_cons.mp h with e | e
    · omega
    · have := mem_sum e
      omega
theorem gaps_le {zs : List Int} {g : Nat} (h : g ∈ gaps zs) : g ≤ zs.length := by
  have h1 := (gaps_sum zs).1
  have h2 : g ≤ (gaps zs).sum := mem_sum h
  omega
theorem ev2_row : ∀ ds, Hf.ev2 (rowL ds) = (match ds with | [] => [0] | d :: r => List.replicate d 1 ++ (0 :: Hf.ev2 (rowL r)))
  | [] => rfl
  | d :: r => by
    show Hf.ev2 (blk d ++ ([0, 0] ++ rowL r)) = List.replicate d 1 ++ (0 :: Hf.ev2 (rowL r))
    induction d with
    | zero => rfl
    | succ d ih =>
      rw [blk_succ, List.replicate_succ]
      show (1 : Int) :: Hf.ev2 (blk d ++ ([0, 0] ++ rowL r)) = _
      rw [ih]
      rfl
theorem gaps_rep (l : List Int) (d : Nat) : gaps (List.replicate d 1 ++ (0 :: l)) = d :: gaps l := by
  induction d with
  | zero => rfl
  | succ d ih =>
    rw [List.replicate_succ]
    show (if (1 : Int) = 1 then (match gaps (List.replicate d 1 ++ (0 :: l)) with | [] => [1] | g :: gs => (g + 1) :: gs) else _) = _
    rw [if_pos rfl, ih]
theorem gaps_row : ∀ ds, gaps (Hf.ev2 (rowL ds)) = ds ++ [0, 0]
  | [] => rfl
  | d :: r => by
    rw [ev2_row]
    show gaps (List.replicate d 1 ++ (0 :: Hf.ev2 (rowL r))) = _
    rw [gaps_rep, gaps_row r]
    rfl
end Wm

/-! Ticks of bent rows as data. -/
namespace Wm
open PySem L2
inductive Tk : PyData → Prop
  | int {i : Int} : i.natAbs < 1000000 → Tk (.int i)
  | bl (b : Bool) : Tk (.bool b)
  | non : Tk .none
  | one : Tk (.str "1")
  | lst : Tk (.list [.int 0])
def Item (K : PySem.W.Frag) (H : Hp) (x : V) : Prop := ∃ d, Dp K H x d ∧ Tk d
theorem sqL_keep {K : PySem.W.Frag} {H H' : Hp} {a : Addr} {xs : List V} (e : Same H H') (h : SqL K H a xs) : SqL K H' a xs := by
  rcases h with (h | ⟨o, h⟩) | h
  · exact .inl (.inl (e _ _ h))
  · exact .inl (.inr ⟨o, e _ _ h⟩)
  · exact .inr h
theorem tk_keep {K : PySem.W.Frag} {H H' : Hp} {x : V} {d : PyData} (e : Same H H') (h : Dp K H x d) (t : Tk d) : Dp K H' x d := by
  cases t with
  | int _ => cases h; exact .int _
  | bl b => cases h; exact .bl _
  | non => cases h; exact .non
  | one => cases h; exact .str _
  | lst =>
    cases h with
    | lst q a =>
      refine .lst (sqL_keep e q) ?_
      cases a with
      | cons b c =>
        cases b
        cases c
        exact .cons (.int _) .nil
theorem Item.keep {K : PySem.W.Frag} {H H' : Hp} {x : V} (e : Same H H') (h : Item K H x) : Item K H' x := let ⟨d, a, b⟩ := h; ⟨d, tk_keep e a b, b⟩
theorem tks_keep {K : PySem.W.Frag} {H H' : Hp} (e : Same H H') : ∀ {xs : List V} {ds : List PyData}, DpAll K H xs ds → (∀ d ∈ ds, Tk d) → DpAll K H' xs ds
  | _, _, .nil, _ => .nil
  | _, _, .cons a b, t => .cons (tk_keep e a (t _ (by simp))) (tks_keep e b fun d m => t d (List.mem_cons_of_mem _ m))
theorem items_data {K : PySem.W.Frag} {H : Hp} : ∀ {xs : List V}, (∀ x ∈ xs, Item K H x) → ∃ ds, DpAll K H xs ds ∧ (∀ d ∈ ds, Tk d) ∧ ds.length = xs.length
  | [], _ => ⟨[], .nil, by simp, rfl⟩
  | x :: xs, h => by
    obtain ⟨d, a, b⟩ := h x (by simp)
    obtain ⟨ds, c1, c2, c3⟩ := items_data (xs := xs) fun y m => h y (List.mem_cons_of_mem _ m)
    refine ⟨d :: ds, .cons a c1, fun y m => ?_, by rw [List.length_cons, List.length_cons, c3]⟩
    rcases List.mem_cons.mp m with q | q
    · rw [q]; exact b
    · exact c2 y q
theorem item_int {K : PySem.W.Frag} {H : Hp} {i : Int} (h : i.natAbs < 1000000) : Item K H (.int i) := ⟨_, .int i, .int h⟩
theorem tk_lay {d : PyData} (t : Tk d) : d.canLay0 = true ∧ d.depth ≤ 1 := by
  cases t with
  | int _ => exact ⟨by simp [PyData.canLay0], by simp [PyData.depth]⟩
  | bl b => exact ⟨by simp [PyData.canLay0], by simp [PyData.depth]⟩
  | non => exact ⟨by simp [PyData.canLay0], by simp [PyData.depth]⟩
  | one => exact ⟨by decide +kernel, by simp [PyData.depth]⟩
  | lst => exact ⟨by simp [PyData.canLay0, PyData.canLayAll0], by simp [PyData.depth, PyData.depthAll]⟩
theorem tks_lay : ∀ {ds : List PyData}, (∀ d ∈ ds, Tk d) → PyData.canLayAll0 ds = true ∧ PyData.depthAll ds ≤ 1
  | [], _ => by simp [PyData.canLayAll0, PyData.depthAll]
  | d :: ds, h => by
    have h1 := tk_lay (h d (by simp))
    have h2 := tks_lay (ds := ds) fun y m => h y (List.mem_cons_of_mem _ m)
    simp only [PyData.canLayAll0, PyData.depthAll, h1.1, h2.1, Bool.and_self, true_and]
    omega
theorem tks_shaped {ds : List PyData} (h : ∀ d ∈ ds, Tk d) : SeqAt.shaped (.list ds) = true := by
  have q := tks_lay h
  have e : decide ((PyData.list ds).depth ≤ 64) = true := decide_eq_true (by simp only [PyData.depth]; omega)
  show ((PyData.list ds).canLay0 && _) = true
  rw [e, Bool.and_true]
  exact q.1
theorem tk_show {d : PyData} (t : Tk d) : d.showable = true ∧ d.hasDict = false ∧ d.leavesShort 13 = true ∧ d.weight ≤ 30 := by
  cases t with
  | @int i h =>
    have hl : i.natAbs.log2 < 20 ∨ i = 0 := by
      by_cases z : i = 0
      · exact .inr z
      · exact .inl ((Nat.log2_lt (by omega)).mpr (by omega))
    refine ⟨decide_eq_true ?_, rfl, decide_eq_true (PyData.shown_int_le (by omega)), ?_⟩
    · rcases hl with z | z
      · omega
      · subst z; decide
    · rcases hl with z | z
      · simp only [PyData.weight]; split <;> omega
      · subst z; decide
  | bl b => exact ⟨rfl, rfl, rfl, by simp [PyData.weight]⟩
  | non => exact ⟨rfl, rfl, rfl, by simp [PyData.weight]⟩
  | one => exact ⟨rfl, rfl, by decide +kernel, by decide +kernel⟩
  | lst => exact ⟨by decide +kernel, rfl, by decide +kernel, by decide +kernel⟩
theorem tks_show : ∀ {ds : List PyData}, (∀ d ∈ ds, Tk d) → PyData.showableAll ds = true ∧ PyData.hasDictAll ds = false ∧ PyData.leavesShortAll 13 ds = true ∧ PyData.weightAll ds ≤ 31 * ds.length
  | [], _ => by simp [PyData.showableAll, PyData.hasDictAll, PyData.leavesShortAll, PyData.weightAll]
  | d :: ds, h => by
    have h1 := tk_show (h d (by simp))
    have h2 := tks_show (ds := ds) fun y m => h y (List.mem_cons_of_mem _ m)
    simp only [PyData.showableAll, PyData.hasDictAll, PyData.leavesShortAll, PyData.weightAll, h1.1, h1.2.1, h1.2.2.1, h2.1, h2.2.1, h2.2.2.1, Bool.and_self, Bool.or_self, true_and, List.length_cons]
    omega
theorem tks_shown {ds : List PyData} (h : ∀ d ∈ ds, Tk d) (l : ds.length ≤ 1000) : (PyData.list ds).shown.length ≤ sizeLine :=
  PyData.shown_fits (B := 13) (by decide) (by decide) (tks_show h).2.2.1 (Nat.le_trans (tks_show h).2.2.2 (by omega))
def isI : V → Bool
  | .int _ => true
  | _ => false
def isBit (x : V) : Bool := decide (x = .int 0) || decide (x = .int 1)
theorem all_ints {xs : List V} (h : ∀ x ∈ xs, isI x = true) : ∃ zs : List Int, xs = zs.map V.int := by
  induction xs with
  | nil => exact ⟨[], rfl⟩
  | cons x xs ih =>
    obtain ⟨zs, e⟩ := ih fun y m => h y (List.mem_cons_of_mem _ m)
    have hx := h x (by simp)
    cases x with
    | int i => exact ⟨i :: zs, by rw [e]; rfl⟩
    | _ => cases hx
theorem all_bits {xs : List V} (h : ∀ x ∈ xs, isBit x = true) : ∃ zs : List Int, xs = zs.map V.int ∧ ∀ z ∈ zs, z = 0 ∨ z = 1 := by
  induction xs with
  | nil => exact ⟨[], rfl, by simp⟩
  | cons x xs ih =>
    obtain ⟨zs, e, b⟩ := ih fun y m => h y (List.mem_cons_of_mem _ m)
    have hx := h x (by simp)
    have hc : x = .int 0 ∨ x = .int 1 := by
      rcases Bool.or_eq_true_iff.mp hx with q | q
      · exact .inl (of_decide_eq_true q)
      · exact .inr (of_decide_eq_true q)
    have : ∃ i : Int, x = .int i ∧ (i = 0 ∨ i = 1) := by
      rcases hc with q | q
      · exact ⟨0, q, .inl rfl⟩
      · exact ⟨1, q, .inr rfl⟩
    obtain ⟨i, rfl, hi⟩ := this
    refine ⟨i :: zs, by rw [e]; rfl, fun z m => ?_⟩
    rcases List.mem_cons.mp m with q | q
    · rw [q]; exact hi
    · exact b z q
/-- what isinstance asks of such a tick -/
theorem tyx_of {K : PySem.W.Frag} {H : Hp} {x : V} (h : Item K H x) : ∃ (n : String) (a b : Bool), TyX K H x (.type n) ∧ PySem.W.kitOne K (.type n) (.type "int") = some a ∧
    PySem.W.kitOne K (.type n) (.type "bool") = some b ∧ (a && !b) = isI x := by
  obtain ⟨d, h, t⟩ := h
  cases t with
  | int _ => cases h; exact ⟨"int", true, false, .base (.int _), kit_ty (by decide +kernel), kit_ty (by decide +kernel), rfl⟩
  | bl b => cases h; exact ⟨"bool", true, true, .base (.bl _), kit_ty (by decide +kernel), kit_ty (by decide +kernel), rfl⟩
  | non => cases h; exact ⟨"NoneType", false, false, .base .non, kit_ty (by decide +kernel), kit_ty (by decide +kernel), rfl⟩
  | one => cases h; exact ⟨"str", false, false, .base (.str _), kit_ty (by decide +kernel), kit_ty (by decide +kernel), rfl⟩
  | lst =>
    cases h with
    | lst q a =>
      rcases q with (q | ⟨o, q⟩) | q
      · exact ⟨"list", false, false, .base (.lst q), kit_ty (by decide +kernel), kit_ty (by decide +kernel), rfl⟩
      · exact ⟨"list", false, false, .base (.frz q), kit_ty (by decide +kernel), kit_ty (by decide +kernel), rfl⟩
      · obtain ⟨o, xs, n, e, c, _⟩ := q
        exact ⟨"list", false, false, .kList e c, kit_ty (by decide +kernel), kit_ty (by decide +kernel), rfl⟩
/-- a list or a tuple -/
def SqA (K : PySem.W.Frag) (H : Hp) (a : Addr) (xs : List V) : Prop := SqL K H a xs ∨ SqT K H a xs
theorem SqA.keep {K : PySem.W.Frag} {H H' : Hp} {a : Addr} {xs : List V} (e : Same H H') (h : SqA K H a xs) : SqA K H' a xs := h.imp (sqL_keep e) (sameT e)
end Wm

/-! Texts of digits: halves, groups, the number they tell. -/
namespace Wm
open PySem L2 TL
def oneS (g : Nat) : Str := ⟨(List.replicate g 49).toArray⟩
def bitS (z : Int) : Str := if z = 1 then "1" else "0"
def decS (g : Nat) : Str := ((toString (g : Int) : String) : Str)
theorem bit_str {z : Int} (h : z = 0 ∨ z = 1) : ((toString z : String) : Str) = bitS z := by
  rcases h with e | e <;> subst e <;> decide +kernel
theorem tl_bit (z : Int) : tl (bitS z) = [if z = 1 then 49 else 48] := by
  unfold bitS
  by_cases c : z = 1
  · rw [if_pos c, if_pos c]; decide +kernel
  · rw [if_neg c, if_neg c]; decide +kernel
theorem joinL_nil : ∀ ps : List (List Nat), joinL [] ps = ps.flatten
  | [] => rfl
  | [p] => by show p = [p].flatten; simp
  | p :: q :: r => by
    show p ++ ([] ++ joinL [] (q :: r)) = _
    rw [joinL_nil (q :: r), List.nil_append]
    rfl
theorem tl_empty : tl ("" : Str) = [] := by decide +kernel
theorem tl_zero : tl ("0" : Str) = [48] := by decide +kernel
theorem tl_join0 (ys : List Str) : tl (Txt.join "" ys) = (ys.map tl).flatten := by
  rw [join_eq, tl_join, tl_empty, joinL_nil]
theorem bits_flat : ∀ zs : List Int, ((zs.map bitS).map tl).flatten = bits zs
  | [] => rfl
  | z :: zs => by
    rw [List.map_cons, List.map_cons, List.flatten_cons, bits_flat zs, tl_bit]
    rfl
theorem halves_eq (zs : List Int) : Txt.join "" (zs.map bitS) = Txt.join "0" ((gaps zs).map oneS) := by
  refine ext_tl ?_
  rw [tl_join0, bits_flat, gaps_join, join_eq, tl_join, tl_zero, List.map_map]
  rfl
theorem groups_eq (zs : List Int) : Txt.split (Txt.join "" (zs.map bitS)) "0" = (gaps zs).map oneS := by
  rw [halves_eq]
  refine split_join (s := 48) (S := []) tl_zero (by decide +kernel) (map_ne (gaps_ne zs)) fun p hp h => ?_
  obtain ⟨g, _, rfl⟩ := List.mem_map.mp hp
  have h : 48 ∈ List.replicate g 49 := h
  exact absurd (List.mem_replicate.mp h).2 (by decide)
theorem oneS_len (g : Nat) : (oneS g).length = g := by
  rw [len_tl]
  show (List.replicate g 49).length = g
  rw [List.length_replicate]
theorem halves_len (zs : List Int) : (Txt.join "" (zs.map bitS)).length = zs.length := by
  rw [len_tl, tl_join0, bits_flat]
  unfold bits
  rw [List.length_map]
theorem len4 : ∀ g : Fin 1001, (decS g.val).length ≤ 4 := by decide +kernel
theorem dec_len {g : Nat} (h : g ≤ 1000) : (decS g).length ≤ 4 := len4 ⟨g, by omega⟩
theorem dec_sum : ∀ {gs : List Nat}, (∀ g ∈ gs, g ≤ 1000) → ((gs.map decS).map (·.length)).sum ≤ 4 * gs.length
  | [], _ => by simp
  | g :: gs, h => by
    have h1 := dec_len (h g (by simp))
    have h2 := dec_sum (gs := gs) fun y m => h y (List.mem_cons_of_mem _ m)
    rw [List.map_cons, List.map_cons, List.sum_cons, List.length_cons]
    omega
theorem join0_len (ys : List Str) : (Txt.join "" ys).length = (ys.map (·.length)).sum := by
  rw [len_tl, tl_join0]
  induction ys with
  | nil => rfl
  | cons y ys ih => rw [List.map_cons, List.flatten_cons, List.length_append, ih, List.map_cons, List.sum_cons, len_tl]
theorem bit_sum (zs : List Int) : ((zs.map bitS).map (·.length)).sum = zs.length := by rw [← join0_len, halves_len]
theorem num_text : ∀ {ds : List Nat}, (∀ d ∈ ds, 1 ≤ d ∧ d ≤ 9) → Txt.join "" (ds.map decS) = numS ds
  | [], _ => by decide +kernel
  | d :: ds, h => by
    have ih := num_text (ds := ds) fun y m => h y (List.mem_cons_of_mem _ m)
    refine ext_tl ?_
    rw [tl_join0, List.map_cons, List.map_cons, List.flatten_cons, ← tl_join0, ih]
    have e : decS d = numS [d] := dig_str (h d (by simp))
    rw [e]
    rfl
/-- the number that a row of bits tells, if it is a row -/
def told (zs : List Int) : Str := Txt.join "" ((gaps (Hf.ev2 zs)).dropLast.dropLast.map decS)
theorem told_row {ds : List Nat} (h : ∀ d ∈ ds, 1 ≤ d ∧ d ≤ 9) : told (rowL ds) = numS ds := by
  unfold told
  rw [gaps_row, ← num_text h]
  congr 2
  show (ds ++ [0, 0]).dropLast.dropLast = ds
  rw [show (ds ++ [0, 0]) = (ds ++ [0]) ++ [0] by simp, List.dropLast_concat, List.dropLast_concat]
theorem digits_codes : ("123456789" : Str).cps.toList = [49, 50, 51, 52, 53, 54, 55, 56, 57] := by decide +kernel
theorem dig_text (t : Str) (h : ∀ c ∈ tl t, c ∈ ("123456789" : Str).cps.toList) : ∃ ds : List Nat, (∀ d ∈ ds, 1 ≤ d ∧ d ≤ 9) ∧ t = numS ds := by
  have h2 : ∀ c ∈ tl t, 49 ≤ c ∧ c ≤ 57 := fun c m => by
    have q := h c m
    rw [digits_codes] at q
    simp only [List.mem_cons, List.not_mem_nil, or_false] at q
    omega
  refine ⟨(tl t).map (· - 48), fun d m => ?_, ?_⟩
  · obtain ⟨c, mc, rfl⟩ := List.mem_map.mp m
    have := h2 c mc
    omega
  · refine ext_tl ?_
    show tl t = ((tl t).map (· - 48)).map (· + 48)
    rw [List.map_map]
    refine (List.map_id _).symm.trans (List.map_congr_left fun c m => ?_)
    have := h2 c m
    show c = c - 48 + 48
    omega
theorem num_codes {ds : List Nat} (h : ∀ d ∈ ds, 1 ≤ d ∧ d ≤ 9) : ∀ c ∈ tl (numS ds), c ∈ ("123456789" : Str).cps.toList := fun c m => by
  have m : c ∈ codes ds := m
  obtain ⟨d, md, rfl⟩ := List.mem_map.mp m
  exact dig_in (h d md)
def IsNum (t : Str) : Prop := ∃ ds, Num ds ∧ t = numS ds
theorem isnum_dig {ds : List Nat} : IsNum (numS ds) ↔ Num ds :=
  ⟨fun ⟨es, N, e⟩ => by rw [numS_inj e]; exact N, fun N => ⟨ds, N, rfl⟩⟩
theorem row_inj {ds es : List Nat} (N : Num ds) (M : Num es) (h : (rowL ds).map V.int = (rowL es).map V.int) : ds = es := by
  have e : rowL ds = rowL es := by
    have q := congrArg (List.map fun v => match v with | V.int i => i | _ => 0) h
    simpa [List.map_map, Function.comp_def] using q
  exact ones_inj (fun d m => (N.dig d m).1) (fun d m => (M.dig d m).1) (by rw [e])
theorem map_int_inj {xs ys : List Int} (h : xs.map V.int = ys.map V.int) : xs = ys := by
  have q := congrArg (List.map fun v => match v with | V.int i => i | _ => 0) h
  simpa [List.map_map, Function.comp_def] using q
/-- what number_of tells of a row -/
def Told (xs : List V) (v : V) : Prop := (∃ ds, Num ds ∧ xs = (rowL ds).map V.int ∧ v = .str (numS ds)) ∨ ((∀ ds, Num ds → xs ≠ (rowL ds).map V.int) ∧ v = .non)
theorem Told.uniq {xs : List V} {v u : V} (a : Told xs v) (b : Told xs u) : v = u := by
  rcases a with ⟨ds, N, e, rfl⟩ | ⟨n, rfl⟩
  · rcases b with ⟨es, M, f, rfl⟩ | ⟨n, _⟩
    · rw [row_inj N M (e.symm.trans f)]
    · exact absurd e (n ds N)
  · rcases b with ⟨es, M, f, rfl⟩ | ⟨_, rfl⟩
    · exact absurd f (n es M)
    · rfl
theorem Told.row {ds : List Nat} {v : V} (N : Num ds) (a : Told ((rowL ds).map V.int) v) : v = .str (numS ds) := a.uniq (.inl ⟨ds, N, rfl, rfl⟩)
end Wm

/-! Things as data: what may be asked whether it is a number. -/
namespace Wm
open PySem L2 TL
structure Tx (t : Str) : Prop where
  len : t.length ≤ 100
  asc : ∀ c ∈ tl t, c < 128
inductive Tg : PyData → Prop
  | int {i : Int} : i.natAbs < 1000000 → Tg (.int i)
  | bl (b : Bool) : Tg (.bool b)
  | non : Tg .none
  | str {t : Str} : Tx t → Tg (.str t)
  | lst {ts : List Str} : (∀ t ∈ ts, Tx t) → ts.length ≤ 100 → Tg (.list (ts.map .str))
  | tup {ts : List Str} : (∀ t ∈ ts, Tx t) → ts.length ≤ 100 → Tg (.tuple (ts.map .str))
structure Ob (K : PySem.W.Frag) (H : Hp) (x : V) (d : PyData) : Prop where
  dp : Dp K H x d
  tg : Tg d
theorem dp_strs {K : PySem.W.Frag} {H H' : Hp} : ∀ {xs : List V} {ts : List Str}, DpAll K H xs (ts.map PyData.str) → xs = ts.map V.str ∧ DpAll K H' (ts.map V.str) (ts.map PyData.str)
  | _, [], h => by cases h; exact ⟨rfl, .nil⟩
  | _, t :: ts, h => by
    cases h with
    | cons a b =>
      cases a
      obtain ⟨e, g⟩ := dp_strs (H' := H') (ts := ts) b
      subst e
      exact ⟨rfl, .cons (.str t) g⟩
theorem dp_strs' {K : PySem.W.Frag} {H : Hp} : ∀ ts : List Str, DpAll K H (ts.map V.str) (ts.map PyData.str)
  | [] => .nil
  | t :: ts => .cons (.str t) (dp_strs' ts)
theorem Ob.move {K : PySem.W.Frag} {H H' : Hp} {x : V} {d : PyData} (h : Ob K H x d) (f : ∀ p o, x = .ref p → H p = some o → (∀ ts : List Str, o = .lst (ts.map V.str) → H' p = some o) ∧ (∀ ts : List Str, o = .tup (ts.map V.str) → H' p = some o) ∧ (∀ ob u, o = .frz ob u → H' p = some o)) : Ob K H' x d := by
  obtain ⟨h, t⟩ := h
  cases t with
  | int q => cases h; exact ⟨.int _, .int q⟩
  | bl b => cases h; exact ⟨.bl _, .bl b⟩
  | non => cases h; exact ⟨.non, .non⟩
  | str q => cases h; exact ⟨.str _, .str q⟩
  | lst q l =>
    cases h with
    | lst s a =>
      obtain ⟨e, g⟩ := dp_strs (H' := H') a
      subst e
      refine ⟨.lst ?_ g, .lst q l⟩
      rcases s with (s | ⟨o, s⟩) | s
      · exact .inl (.inl ((f _ _ rfl s).1 _ rfl))
      · exact .inl (.inr ⟨o, (f _ _ rfl s).2.2 _ _ rfl⟩)
      · exact .inr s
  | tup q l =>
    cases h with
    | tup s a =>
      obtain ⟨e, g⟩ := dp_strs (H' := H') a
      subst e
      refine ⟨.tup ?_ g, .tup q l⟩
      rcases s with (s | ⟨o, s⟩) | s
      · exact .inl (.inl ((f _ _ rfl s).2.1 _ rfl))
      · exact .inl (.inr ⟨o, (f _ _ rfl s).2.2 _ _ rfl⟩)
      · exact .inr s
theorem Ob.keep {K : PySem.W.Frag} {H H' : Hp} {x : V} {d : PyData} (e : Same H H') (h : Ob K H x d) : Ob K H' x d :=
  h.move fun p o _ q => ⟨fun _ _ => e _ _ q, fun _ _ => e _ _ q, fun _ _ _ => e _ _ q⟩
theorem Ob.but {K : PySem.W.Frag} {H H' : Hp} {x : V} {d : PyData} {b : Addr} {n : Nat} (bag : Bag H b n) (e : But b H H') (h : Ob K H x d) : Ob K H' x d := by
  obtain ⟨c, i, k, m, z, ns, hb, _⟩ := bag
  refine h.move fun p o _ q => ?_
  by_cases pb : p = b
  · subst pb
    rw [hb] at q
    have q := Option.some.inj q
    subst q
    refine ⟨fun ts f => ?_, fun ts f => (by cases f), fun ob u f => (by cases f)⟩
    cases ts with
    | nil => simp at f
    | cons t ts => simp at f
  · exact ⟨fun _ _ => e _ _ pb q, fun _ _ => e _ _ pb q, fun _ _ _ => e _ _ pb q⟩
theorem tx_lay {t : Str} (h : Tx t) : PyData.leavesShort 13 (.str t) = true ∧ PyData.weight (.str t) ≤ 100 := by
  refine ⟨?_, h.len⟩
  show (t.cps.toList.all fun c => decide (c < 16 ^ 8)) = true
  rw [List.all_eq_true]
  intro c m
  have := h.asc c m
  exact decide_eq_true (by omega)
theorem strs_lay : ∀ {ts : List Str}, (∀ t ∈ ts, Tx t) → PyData.leavesShortAll 13 (ts.map .str) = true ∧ PyData.weightAll (ts.map .str) ≤ 101 * ts.length ∧ PyData.showableAll (ts.map .str) = true ∧ PyData.hasDictAll (ts.map .str) = false ∧ PyData.depthAll (ts.map .str) = 0 ∧ PyData.plainAll (ts.map .str) = true
  | [], _ => by simp [PyData.leavesShortAll, PyData.weightAll, PyData.showableAll, PyData.hasDictAll, PyData.depthAll, PyData.plainAll]
  | t :: ts, h => by
    have h1 := tx_lay (h t (by simp))
    have h2 := strs_lay (ts := ts) fun y m => h y (List.mem_cons_of_mem _ m)
    obtain ⟨a1, a2⟩ := h1
    obtain ⟨b1, b2, b3, b4, b5, b6⟩ := h2
    simp only [List.map_cons, PyData.leavesShortAll, PyData.weightAll, PyData.showableAll, PyData.hasDictAll, PyData.depthAll, PyData.plainAll, a1, b1, b3, b4, b5, b6, PyData.showable, PyData.hasDict, PyData.depth, PyData.plain, Bool.and_self, Bool.or_self, true_and, List.length_cons, and_true, Nat.max_self]
    omega
structure Shows (d : PyData) : Prop where
  sh : d.showable = true
  nd : d.hasDict = false
  dep : d.depth ≤ 60
  fit : d.shown.length ≤ sizeLine
theorem tg_shows {d : PyData} (t : Tg d) : Shows d := by
  cases t with
  | @int i h =>
    have hl : i.natAbs.log2 < 20 ∨ i = 0 := by
      by_cases z : i = 0
      · exact .inr z
      · exact .inl ((Nat.log2_lt (by omega)).mpr (by omega))
    refine ⟨decide_eq_true ?_, rfl, Nat.zero_le _, Nat.le_trans (PyData.shown_int_le (by omega)) (by decide)⟩
    rcases hl with z | z
    · omega
    · subst z; decide
  | bl b => exact ⟨rfl, rfl, Nat.zero_le _, by cases b <;> decide +kernel⟩
  | non => exact ⟨rfl, rfl, Nat.zero_le _, by decide +kernel⟩
  | str h =>
    have q := tx_lay h
    exact ⟨rfl, rfl, Nat.zero_le _, PyData.shown_fits (B := 13) (by decide) (by decide) q.1 (Nat.le_trans q.2 (by decide))⟩
  | lst h l =>
    obtain ⟨b1, b2, b3, b4, b5, b6⟩ := strs_lay h
    exact ⟨b3, b4, by simp only [PyData.depth, b5]; decide, PyData.shown_fits (B := 13) (by decide) (by decide) b1 (Nat.le_trans b2 (by omega))⟩
  | tup h l =>
    obtain ⟨b1, b2, b3, b4, b5, b6⟩ := strs_lay h
    exact ⟨b3, b4, by simp only [PyData.depth, b5]; decide, PyData.shown_fits (B := 13) (by decide) (by decide) b1 (Nat.le_trans b2 (by omega))⟩
/-- a number's text -/
def IsN (x : V) : Prop := ∃ ds, Num ds ∧ x = .str (numS ds)
/-- what isinstance asks of a thing: a text, or no text -/
theorem tys_of {K : PySem.W.Frag} {H : Hp} {x : V} {d : PyData} (h : Ob K H x d) : ∃ (n : String) (b : Bool), TyX K H x (.type n) ∧ PySem.W.kitOne K (.type n) (.type "str") = some b ∧ (b = true → ∃ t, x = .str t ∧ d = .str t ∧ Tx t) ∧ (b = false → ¬ IsN x) := by
  obtain ⟨h, t⟩ := h
  cases t with
  | int _ => cases h; exact ⟨"int", false, .base (.int _), kit_ty (by decide +kernel), (fun z => by cases z), fun _ ⟨ds, _, e⟩ => by cases e⟩
  | bl b => cases h; exact ⟨"bool", false, .base (.bl _), kit_ty (by decide +kernel), (fun z => by cases z), fun _ ⟨ds, _, e⟩ => by cases e⟩
  | non => cases h; exact ⟨"NoneType", false, .base .non, kit_ty (by decide +kernel), (fun z => by cases z), fun _ ⟨ds, _, e⟩ => by cases e⟩
  | str q => cases h; exact ⟨"str", true, .base (.str _), kit_ty (by decide +kernel), fun _ => ⟨_, rfl, rfl, q⟩, fun z => by cases z⟩
  | lst _ _ =>
    cases h with
    | lst q a =>
      rcases q with (q | ⟨o, q⟩) | q
      · exact ⟨"list", false, .base (.lst q), kit_ty (by decide +kernel), (fun z => by cases z), fun _ ⟨ds, _, e⟩ => by cases e⟩
      · exact ⟨"list", false, .base (.frz q), kit_ty (by decide +kernel), (fun z => by cases z), fun _ ⟨ds, _, e⟩ => by cases e⟩
      · obtain ⟨o, xs, n, e, c, _⟩ := q
        exact ⟨"list", false, .kList e c, kit_ty (by decide +kernel), (fun z => by cases z), fun _ ⟨ds, _, e⟩ => by cases e⟩
  | tup _ _ =>
    cases h with
    | tup q a =>
      rcases q with (q | ⟨o, q⟩) | q
      · exact ⟨"tuple", false, .base (.tup q), kit_ty (by decide +kernel), (fun z => by cases z), fun _ ⟨ds, _, e⟩ => by cases e⟩
      · exact ⟨"tuple", false, .fTuple q, kit_ty (by decide +kernel), (fun z => by cases z), fun _ ⟨ds, _, e⟩ => by cases e⟩
      · obtain ⟨o, xs, n, e, c, _⟩ := q
        exact ⟨"tuple", false, .kTuple e c, kit_ty (by decide +kernel), (fun z => by cases z), fun _ ⟨ds, _, e⟩ => by cases e⟩
theorem ob_num {K : PySem.W.Frag} {H : Hp} {ds : List Nat} (N : Num ds) : Ob K H (.str (numS ds)) (.str (numS ds)) :=
  ⟨.str _, .str ⟨by rw [numS_len]; have := N.len; omega, fun c m => by
    have m : c ∈ codes ds := m
    obtain ⟨d, md, rfl⟩ := List.mem_map.mp m
    have := (N.dig d md).2
    omega⟩⟩
theorem isN_str {t : Str} : IsN (.str t) ↔ IsNum t := ⟨fun ⟨ds, N, e⟩ => ⟨ds, N, V.str.inj e⟩, fun ⟨ds, N, e⟩ => ⟨ds, N, by rw [e]⟩⟩
theorem fresh_but {b p : Addr} {H H' : Hp} {n : Nat} (bag : Bag H b n) (e : But b H H') (f : H' p = none) : H p = none := by
  cases q : H p with
  | none => rfl
  | some o =>
    by_cases pb : p = b
    · obtain ⟨c, x, k, m, z, ns, h, _⟩ := bag
      obtain ⟨x', k', m', z', g⟩ := e.cel c ⟨x, k, m, z, h⟩
      rw [pb, g] at f
      cases f
    · rw [e.keep p o pb q] at f
      cases f
end Wm

/-! enumerate of a tuple, as a thing that a for walks. -/
namespace Es
open PySem PySem.Spec PyProof.Rows L2
theorem meets_ent (t : Addr) (its : Array Value) (m : Nat) (dd : Option Addr) (slo : Array (Option Value)) :
    Meets (Builtin.«enumerate.__new__» ⟨[.type "enumerate", .ref t], []⟩) (fun _ R s => s.heap.get? t = some { cls := .type "tuple", dict := dd, data := .seq its m, slots := slo } ∧
      R (.ok (.ret (.ref (s.heap.push { cls := .type "tuple_iterator", data := .fields #[.ref t, .int 0 0] }).objs.size))) { s with heap := (s.heap.push { cls := .type "tuple_iterator", data := .fields #[.ref t, .int 0 0] }).push { cls := .type "enumerate", data := .fields #[.none, .bool false, .ref s.heap.objs.size, rawInt 0, .none, .none] } }) :=
  .of_wp fun prog w A R s h => by
    obtain ⟨hp, gn, dr, tk, os⟩ := s
    obtain ⟨ht, h⟩ := h
    have hsub := sub_enumerate
    have hT : Heap.IsTuple (Shared.heap ⟨hp, gn, dr, tk, os⟩) t its := ⟨_, ht, rfl, m, rfl⟩
    wp_walk using AutoSeq1.wpAny_loadPart' ht
    refine wpAny_stack_any fun st => wpAny_pure ?_
    split
    · rename_i c _ _ _ _ _
      cases (c == Value.type "enumerate")
      · wp_walk using AutoSeq1.wpAny_loadPart' ht, wpAny_pyIter_tuple hT
        exact ⟨_, rfl, h⟩
      · wp_walk using AutoSeq1.wpAny_loadPart' ht, wpAny_pyIter_tuple hT
        exact ⟨_, rfl, h⟩
    · wp_walk using AutoSeq1.wpAny_loadPart' ht, wpAny_pyIter_tuple hT
      exact ⟨_, rfl, h⟩
section
variable {prog : Program} {w : World} {A : Around} {E : Value → Shared → Prop} {s : Shared}
theorem call_ent {t : Addr} {its : Array Value} {Q : Value → Shared → Prop} (ht : s.heap.IsTuple t its)
    (q : ∀ g, IsEnum g (s.heap.objs.size + 1) s.heap.objs.size 0 .none → g.IsTupleIter s.heap.objs.size t 0 → (∀ b o, s.heap.get? b = some o → g.get? b = some o) → Q (.ref (s.heap.objs.size + 1)) { s with heap := g }) :
    wpAny (model prog w) A (call (.type "enumerate") [.ref t]) Q E s := by
  obtain ⟨⟨tc, td, tdat, tsl⟩, h0, h1, m, h2⟩ := ht
  simp only at h1 h2
  subst h1 h2
  refine callType_new F.called_enumerate (by decide) (F.typeCall_enumerate_1 _) (F.newCall_enumerate_1 _) (fun ob => F.args_object_init_2 ob _) F.entry_enumerate_new (meets_ent t its m td tsl) ⟨h0, ?_⟩
  have hz : (s.heap.push { cls := .type "tuple_iterator", data := .fields #[.ref t, .int 0 0] }).objs.size = s.heap.objs.size + 1 := Heap.size_push ..
  have er : IsEnum ((s.heap.push { cls := .type "tuple_iterator", data := .fields #[.ref t, .int 0 0] }).push { cls := .type "enumerate", data := .fields #[.none, .bool false, .ref s.heap.objs.size, rawInt 0, .none, .none] }) (s.heap.objs.size + 1) s.heap.objs.size 0 .none := by
    rw [← hz]
    exact Heap.get?_push_size _ rfl
  show _ ∧ _
  rw [hz]
  exact ⟨⟨_, er, rfl⟩, q _ er ⟨_, Heap.get?_push_of_some _ (Heap.get?_push_size _ rfl), rfl, rfl⟩ fun b o x => Heap.get?_push_of_some _ (Heap.get?_push_of_some _ x)⟩
theorem tup_end {e it t : Addr} {i : Nat} {its : Array Value} {old : Value} {k : Int} {Q : Option Value → Shared → Prop} (hh : A.handled = none) (er : IsEnum s.heap e it k old) (ti : s.heap.IsTupleIter it t i) (ht : s.heap.IsTuple t its) (hx : its[i]? = none)
    (q : ∀ g, Heap.ExtBut it s.heap g → Q none { s with heap := g }) : wpAny (model prog w) A (pyNext (.ref e)) Q E s := by
  have te : s.TypeIs (.ref e) "enumerate" := ⟨_, er, rfl⟩
  unfold pyNext
  refine wpAny_bind (wpAny_attempt (wpAny_callSpecial?_slot (name := Str.ofString "__next__") te F.slot_enumerate_next (wpAny_call_entry F.slot_enumerate_next te F.entry_enumerate_next ?_ (F.args_enumerate_next_1 _))))
  show wpAny _ _ (field (.ref e) 2 >>= _) _ _ _
  refine wpAny_bind (wpAny_field er rfl (x := .ref it) rfl ?_)
  refine wpAny_bind (wpAny_nextOf_tuple_end (show A.in1.handled = none from hh) ti ht hx fun g x k1 ⟨o, k2, k3⟩ => ?_)
  refine wpAny_bind (wpAny_isInstance (T := "StopIteration") (b := true) ⟨o, k2, k3⟩ isSubtype_stop ?_)
  exact wpAny_pure (q _ k1)
end
def Iten (K : PySem.W.Frag) (a : Addr) : It :=
  ⟨fun i H => ∃ (xs : List V) (x : V), SqT K H a xs ∧ xs[i]? = some x, fun i H v H' => ∃ T x, v = .ref T ∧ H T = none ∧ H' = upd H T (.tup [.int (i : Nat), x]) ∧ ∀ xs, SqT K H a xs → xs[i]? = some x, fun i H => ∃ xs : List V, SqT K H a xs ∧ xs.length ≤ i⟩
theorem turn_ent {P : Program} {w : World} {K : PySem.W.Frag} {elts : List Expr} {kk : Nat} {tpos : Pos} (a e it : Addr) (nei : e ≠ it) (nea : e ≠ a) (nai : a ≠ it) :
    Turn P w K (.Tuple elts kk tpos) (Iten K a) [e, it] e (fun i h => (∃ old, IsEnum h e it ((i : Nat) : Int) old) ∧ h.IsTupleIter it a i) where
  mem := by simp
  obj := fun i h st b hb => by
    obtain ⟨⟨old, er⟩, o, ho, _, hd⟩ := st
    have hb' : b = e ∨ b = it := by simpa using hb
    rcases hb' with z | z
    · rw [z]
      exact ⟨_, er, fun v q => nomatch q⟩
    · rw [z]
      exact ⟨o, ho, fun v q => by rw [hd] at q; cases q⟩
  keep := fun i h g st k => by
    obtain ⟨⟨old, er⟩, ti⟩ := st
    exact ⟨⟨old, k e (by simp) _ er⟩, ti.at fun o q => k it (by simp) o q⟩
  item := by
    intro X hP hw hK hc i pins s σ H E I hf st hg
    subst hP hw hK
    obtain ⟨⟨old, er⟩, ti⟩ := st
    obtain ⟨xs, x, hq, hx⟩ := hg
    obtain ⟨its, rv, p, _⟩ := I.tuple hq
    obtain ⟨u, hu, ru⟩ := rv.get hx
    have el : e < s.heap.objs.size := Heap.lt_size er
    have il : it < s.heap.objs.size := by
      obtain ⟨_, q, _⟩ := id ti
      exact Heap.lt_size q
    have hlt : i < its.toArray.size := by
      have q := (List.getElem?_eq_some_iff.mp hu).1
      simpa using q
    have hd : X.A.in1.handled = none := I.ok.hd hc
    refine wpAny_pyNext_enum_itemD (Draws.tuple hd it a nai its.toArray) er ⟨ti, p⟩ hlt nei (by simp [nei, nea]) fun y g tk hy eo st2 hT hsz hk => ?_
    have ey : y = u := by
      rw [show its.toArray[i]? = some u by simpa using hu] at hy
      exact (Option.some.inj hy).symm
    subst ey
    refine ⟨_, rfl, wpAny_letOwnedTupleGo_enum (s := { s with heap := g, toks := tk + 1 }) eo fun g2 er2 sb => ?_⟩
    have hT2 : g2.get? s.heap.objs.size = some { cls := .type "tuple", data := .seq #[.int i tk, y] } := (sb.2 _ (Nat.ne_of_gt el)).trans hT
    have new : ObjOk X.prog X.w (upd H s.heap.objs.size (.tup [.int (i : Nat), x])) g2 s.heap.objs.size (.tup [.int (i : Nat), x]) := ⟨by show 2 ≤ sizeLine; decide, [.int i tk, y], .cons ⟨_, rfl⟩ (.cons ru .nil), ⟨_, hT2, rfl, _, rfl⟩⟩
    have I1 : Inv X pins σ (upd H s.heap.objs.size (.tup [.int (i : Nat), x])) { s with heap := g2, toks := tk + 1 } := I.turnedNew (ch := [e, it]) (fun b ob hb q => (sb.2 b (fun z => hb (by simp [z]))).trans (hk b ob (fun z => hb (by simp [z])) (fun z => hb (by simp [z])) q)) hf (Nat.le_refl _) new
    refine ⟨.ref s.heap.objs.size, _, I1, rfl, ⟨_, x, rfl, I.hok.fresh (Nat.le_refl _), rfl, fun ys hy => by rw [I.tuple_inj hy hq]; exact hx⟩, ⟨⟨y, ?_⟩, st2.1.at fun o q => (sb.2 it nei.symm).trans q⟩, fun b hb => ?_⟩
    · rw [show ((i + 1 : Nat) : Int) = (i : Int) + 1 by omega]
      exact er2
    · have lb : b < s.heap.objs.size := by
        have hb' : b = e ∨ b = it := by simpa using hb
        rcases hb' with z | z
        · rw [z]; exact el
        · rw [z]; exact il
      rw [upd_ne (Nat.ne_of_lt lb)]
      exact (hf b hb).1
  done := by
    intro X hP hw hK hc i pins s σ H E I hf st hg
    subst hP hw hK
    obtain ⟨⟨old, er⟩, ti⟩ := st
    obtain ⟨xs, hq, hx⟩ := hg
    obtain ⟨its, rv, p, _⟩ := I.tuple hq
    have hl := rv.length
    exact tup_end (I.ok.hd hc) er ti p (by simp; omega) fun g kg => ⟨rfl, I.turnedL (t' := s.toks) (ch := [e, it]) (fun b o hb q => kg b o (fun z => hb (by simp [z])) q) hf⟩
  self := fun A i s Q E st h => let ⟨⟨_, er⟩, _⟩ := st; wpAny_pyIter_enum er h
def iEnt (K : PySem.W.Frag) (ta : TA) : TI := fun σ H R => ta σ H fun vs H1 => ∃ a xs, vs = [.ref a] ∧ SqT K H1 a xs ∧ R (Iten K a) H1
theorem pi_ent {X : Cx} {e : Expr} {ta : TA} {p pos tpos : Pos} {elts : List Expr} {kk : Nat} (hg : Gl X "enumerate") (hm : X.mg "enumerate" = none) (ha : PA X [e] ta) (hs : starEach [e] X.env = [(false, eval e X.env)] := by rfl) :
    PI X (.Tuple elts kk tpos) (.Call (.Name "enumerate" p) [e] [] pos) (iEnt X.K ta) := by
  refine ⟨fun pins s σ H R I h => ?_⟩
  refine Call_ (ld_blt I hg hm boot_enumerate (PyProof.Rows.callWith_type1 (thn (ha.run pos pins s σ H _ I h) fun us s1 ⟨vs, H1, I1, r1, q1⟩ => ?_) hs rfl))
  obtain ⟨a, xs, ev, hq, q⟩ := q1
  subst ev
  cases r1 with
  | cons r rr =>
    cases rr
    cases r
    obtain ⟨its, rv, pt, _⟩ := I1.tuple hq
    obtain ⟨ot, hot, _⟩ := id pt
    have al : a < s1.heap.objs.size := Heap.lt_size hot
    refine call_ent (show s1.heap.IsTuple a its.toArray from pt) fun g er ti kg => wpAny_pyIter_enum er ?_
    have I2 : Inv X pins σ H1 { s1 with heap := g } := I1.kept (t' := s1.toks) kg
    refine ⟨s1.heap.objs.size + 1, [s1.heap.objs.size + 1, s1.heap.objs.size], _, _, H1, rfl, I2, turn_ent a (s1.heap.objs.size + 1) s1.heap.objs.size (Nat.succ_ne_self _) (Nat.ne_of_gt (Nat.lt_succ_of_lt al)) (Nat.ne_of_lt al), ⟨⟨.none, er⟩, ti⟩, fun b hb => ?_, q⟩
    have hb' : b = s1.heap.objs.size + 1 ∨ b = s1.heap.objs.size := by simpa using hb
    have le : s1.heap.objs.size ≤ b := by
      rcases hb' with z | z
      · rw [z]; exact Nat.le_add_right _ _
      · rw [z]; exact Nat.le_refl _
    exact I1.fpOk le (I1.hok.fresh le)
theorem walk_ent {K : PySem.W.Frag} {a : Addr} {xs : List V} : Walk (Iten K a) xs.length (fun H => SqT K H a xs) (YPair (fun i => some (.int (i : Nat))) (fun i => xs[i]?)) := by
  refine ⟨fun i _ hi q => ⟨xs, xs[i], q, by simp [hi]⟩, fun _ q => ⟨xs, q, Nat.le_refl _⟩, fun i H v H' _ q y => ?_⟩
  obtain ⟨T, x, y1, y2, y3, y4⟩ := y
  exact ⟨T, .int (i : Nat), x, y1, y2, y3, rfl, y4 xs q⟩
end Es

/-! xs.extend(t), t a tuple; comprehensions of two clauses by walks. -/
namespace Et
open PySem PySem.Spec PyProof.Rows L2
theorem ext_meets (l : Addr) (us : Array Value) (n : Nat) (b : Addr) (vs : Array Value) (m : Nat) (dd : Option Addr) (sl : Array (Option Value)) (h0 : ¬(!us.isEmpty && Builtin.List.listTooLong (us.size + vs.size)) = true) (h1 : us.size ≤ sizeLine) (h2 : us.size + vs.size ≤ sizeLine + 1) :
    Meets (Builtin.«list.extend» ⟨[.ref l, .ref b], []⟩) (fun _ R s => s.heap.get? l = some { cls := .type "list", dict := none, data := .seq us n, slots := #[] } ∧ s.heap.get? b = some { cls := .type "tuple", dict := dd, data := .seq vs m, slots := sl } ∧ R (.ok (.ret Value.none)) { s with heap := s.heap.update l (Obj.mapSeq fun x => x ++ vs), toks := s.toks }) :=
  .of_wp fun prog w A R s h => by
    obtain ⟨hp, g, d, tk, os⟩ := s
    obtain ⟨hl, hb, h⟩ := h
    have f1 := AutoSeq1.idx_int
    have f2 := AutoSeq1.sub_tuple_tuple
    have f3 := AutoSeq1.sub_list_list
    have f4 := AutoSeq1.sub_tuple_list
    have f5 := AutoSeq1.sub_list_tuple
    have hz' : (us ++ vs).size ≤ sizeLine + 1 := by
      rw [Array.size_append]
      exact h2
    wp_walk using (wpAny_updateSeq hl rfl (hz := h1) (_hz' := hz')), AutoSeq1.wpAny_loadPart' hl, AutoSeq1.wpAny_loadPart' hb
    exact ⟨_, rfl, h⟩
section
variable {X : Cx}
def rExtT (K : PySem.W.Frag) : V → List V → Hp → VK → Prop := fun x vs H Q => ∃ l b xs zs, x = .ref l ∧ vs = [.ref b] ∧ H l = some (.lst xs) ∧ SqT K H b zs ∧ xs.length + zs.length ≤ sizeLine ∧ Q .non (upd H l (.lst (xs ++ zs)))
theorem mt_extT : MtM X "list.extend" (rExtT X.K) := by
  intro pins s σ H x vs v us Q I rx rv h
  obtain ⟨l, b, xs, zs, rfl, rfl, hH, hB, hz, q⟩ := h
  cases rx
  obtain ⟨u, rfl, ru⟩ := rv.one
  cases ru
  obtain ⟨z, its, n, r, hl, e⟩ := I.lstM hH
  obtain ⟨its2, r2, p2, _⟩ := I.tuple hB
  obtain ⟨⟨c2, d2, a2, s2⟩, e2, k1, m, k2⟩ := p2
  simp only at k1 k2
  subst k1 k2
  have hl2 := r2.length
  have hsz : its.toArray.size + its2.toArray.size ≤ sizeLine := by
    rw [List.size_toArray, List.size_toArray]
    omega
  have hlong : ¬ (!its.toArray.isEmpty && Builtin.List.listTooLong (its.toArray.size + its2.toArray.size)) = true := by
    rw [notLongL hsz, Bool.and_false]
    exact Bool.false_ne_true
  refine call_meets F.slot_list_extend ⟨_, e, rfl⟩ F.entry_list_extend (F.args_list_extend_2 _ _) (ext_meets l its.toArray n b its2.toArray m d2 s2 hlong (by rw [List.size_toArray]; omega) (by omega)) ⟨e, e2, ?_⟩
  refine ⟨.non, _, I.lset (its' := its ++ its2) hH e (by simp) (r.append r2) ?_, rfl, q⟩
  rw [List.length_append]
  omega
end
/-- the outer clause of a comprehension of two -/
theorem out_it {J : It} {n : Nat} {G : Hp → Prop} {Y : Nat → Hp → V → Hp → Prop} (w : Walk J n G Y) {g : TG} {tt : TT} {B : (Hp → Prop) → L2.St → Hp → Prop} {vs : List Nat} {σ : L2.St} {H1 : Hp} {D : Addr} {Qd : Hp → Prop} (Pv : Nat → Hp → Prop) (h0 : Pv 0 (upd H1 D (.lst []))) (hG : ∀ i H, i ≤ n → Pv i H → G H)
    (hs : ∀ i x H H', i < n → Pv i H → Y i H x H' → g x (wipe σ vs) H' fun σ2 H2 => wipe σ2 vs = wipe σ vs ∧ tt σ2 H2 fun b H3 => if b = true then B (Pv (i + 1)) σ2 H3 else Pv (i + 1) H3) (hd : ∀ H, Pv n H → Qd H) :
    ∃ W : Nat → Nat → Hp → Prop, (∃ m, W 0 m (upd H1 D (.lst []))) ∧ ∀ i m H, W i m H →
      (J.stop i H ∧ Qd H) ∨ (J.go i H ∧ ∃ Nx : Hp → Prop, (∀ H', Nx H' → ∃ m', m' < m ∧ W (i + 1) m' H') ∧ ∀ x H', J.yld i H x H' → g x (wipe σ vs) H' fun σ2 H2 => wipe σ2 vs = wipe σ vs ∧ tt σ2 H2 fun b H3 => if b = true then B Nx σ2 H3 else Nx H3) := by
  refine ⟨fun i m H => m = n - i ∧ i ≤ n ∧ Pv i H, ⟨n, by simp, Nat.zero_le _, h0⟩, ?_⟩
  rintro i m H ⟨rfl, hi, p⟩
  have q := hG i H hi p
  by_cases lt : i < n
  · exact .inr ⟨w.goes i H lt q, Pv (i + 1), fun H' p' => ⟨n - (i + 1), by omega, rfl, lt, p'⟩, fun x H' y => hs i x H H' lt p (w.yields i H x H' lt q y)⟩
  · have e : i = n := by omega
    subst e
    exact .inl ⟨w.stops H q, hd H p⟩
/-- the inner clause -/
theorem in_it {J : It} {n : Nat} {G : Hp → Prop} {Y : Nat → Hp → V → Hp → Prop} (w : Walk J n G Y) {g : TG} {tt : TT} {te : TE} {vs : List Nat} {σ : L2.St} {H1 : Hp} {D : Addr} {Qd : Hp → Prop} (Pv : Nat → Hp → Prop) (h0 : Pv 0 H1) (hG : ∀ i H, i ≤ n → Pv i H → G H)
    (hs : ∀ i x H H', i < n → Pv i H → Y i H x H' → g x (wipe σ vs) H' fun σ2 H2 => wipe σ2 vs = wipe σ vs ∧ tt σ2 H2 fun b H3 =>
      if b = true then te σ2 H3 fun y H4 => ∃ acc, H4 D = some (.lst acc) ∧ acc.length < sizeLine ∧ Pv (i + 1) (upd H4 D (.lst (acc ++ [y]))) else Pv (i + 1) H3) (hd : ∀ H, Pv n H → Qd H) :
    ∃ W : Nat → Nat → Hp → Prop, (∃ m, W 0 m H1) ∧ ∀ i m H, W i m H →
      (J.stop i H ∧ Qd H) ∨ (J.go i H ∧ ∃ Nx : Hp → Prop, (∀ H', Nx H' → ∃ m', m' < m ∧ W (i + 1) m' H') ∧ ∀ x H', J.yld i H x H' → g x (wipe σ vs) H' fun σ2 H2 => wipe σ2 vs = wipe σ vs ∧ tt σ2 H2 fun b H3 =>
        if b = true then te σ2 H3 fun y H4 => ∃ acc, H4 D = some (.lst acc) ∧ acc.length < sizeLine ∧ Nx (upd H4 D (.lst (acc ++ [y]))) else Nx H3) := by
  refine ⟨fun i m H => m = n - i ∧ i ≤ n ∧ Pv i H, ⟨n, by simp, Nat.zero_le _, h0⟩, ?_⟩
  rintro i m H ⟨rfl, hi, p⟩
  have q := hG i H hi p
  by_cases lt : i < n
  · refine .inr ⟨w.goes i H lt q, Pv (i + 1), fun H' p' => ⟨n - (i + 1), by omega, rfl, lt, p'⟩, fun x H' y => hs i x H H' lt p (w.yields i H x H' lt q y)⟩
  · have e : i = n := by omega
    subst e
    exact .inl ⟨w.stops H q, hd H p⟩
end Et

/-! Data of ints, texts and tuples of such; what keeps them. -/
namespace Dv
open PySem L2 Wm
mutual
inductive Dt (K : PySem.W.Frag) (H : Hp) : V → PyData → Prop
  | int (i : Int) : Dt K H (.int i) (.int i)
  | str (x : Str) : Dt K H (.str x) (.str x)
  | tup {a : Addr} {xs : List V} {ds : List PyData} : SqT K H a xs → Dts K H xs ds → Dt K H (.ref a) (.tuple ds)
inductive Dts (K : PySem.W.Frag) (H : Hp) : List V → List PyData → Prop
  | nil : Dts K H [] []
  | cons {v : V} {vs : List V} {d : PyData} {ds : List PyData} : Dt K H v d → Dts K H vs ds → Dts K H (v :: vs) (d :: ds)
end
/-- tuples stand -/
def Kt (K : PySem.W.Frag) (H H' : Hp) : Prop := ∀ a xs, SqT K H a xs → SqT K H' a xs
section
variable {K : PySem.W.Frag} {H H' H2 : Hp}
theorem Kt.refl : Kt K H H := fun _ _ h => h
theorem Kt.trans (a : Kt K H H') (b : Kt K H' H2) : Kt K H H2 := fun p xs h => b p xs (a p xs h)
theorem Kt.same (s : Same H H') : Kt K H H' := fun _ _ h => sameT s h
/-- a store at what is no tuple -/
theorem Kt.set {p : Addr} {o u : HO} (h : H p = some u) (n1 : ∀ xs, u ≠ .tup xs) (n2 : ∀ ob xs, u ≠ .frz ob (.tup xs)) : Kt K H (upd H p o) := fun a xs q => by
  rcases q with (q | ⟨ob, q⟩) | q
  · exact .inl (.inl (by rw [upd_ne (fun e => by subst e; rw [h] at q; exact n1 _ (Option.some.inj q))]; exact q))
  · exact .inl (.inr ⟨ob, by rw [upd_ne (fun e => by subst e; rw [h] at q; exact n2 _ _ (Option.some.inj q))]; exact q⟩)
  · exact .inr q
theorem Kt.lst {p : Addr} {o : HO} {xs : List V} (h : H p = some (.lst xs)) : Kt K H (upd H p o) := Kt.set h (fun _ q => by cases q) (fun _ _ q => by cases q)
theorem Kt.new {p : Addr} {o : HO} (h : H p = none) : Kt K H (upd H p o) := Kt.same (same_new h)
mutual
theorem Dt.keep (k : Kt K H H') : ∀ (d : PyData) (v : V), Dt K H v d → Dt K H' v d
  | .int _, _, h => by cases h; exact .int _
  | .str _, _, h => by cases h; exact .str _
  | .tuple ds, _, h => by
    cases h with
    | tup a b => exact .tup (k _ _ a) (Dts.keep k ds _ b)
  | .none, _, h => by cases h
  | .bool _, _, h => by cases h
  | .list _, _, h => by cases h
  | .dict _, _, h => by cases h
theorem Dts.keep (k : Kt K H H') : ∀ (ds : List PyData) (vs : List V), Dts K H vs ds → Dts K H' vs ds
  | [], _, h => by cases h; exact .nil
  | d :: ds, _, h => by
    cases h with
    | cons a b => exact .cons (Dt.keep k d _ a) (Dts.keep k ds _ b)
end
mutual
theorem Dt.dp : ∀ (d : PyData) (v : V), Dt K H v d → Dp K H v d
  | .int _, _, h => by cases h; exact .int _
  | .str _, _, h => by cases h; exact .str _
  | .tuple ds, _, h => by
    cases h with
    | tup a b => exact .tup a (Dts.dp ds _ b)
  | .none, _, h => by cases h
  | .bool _, _, h => by cases h
  | .list _, _, h => by cases h
  | .dict _, _, h => by cases h
theorem Dts.dp : ∀ (ds : List PyData) (vs : List V), Dts K H vs ds → DpAll K H vs ds
  | [], _, h => by cases h; exact .nil
  | d :: ds, _, h => by
    cases h with
    | cons a b => exact .cons (Dt.dp d _ a) (Dts.dp ds _ b)
end
theorem Dt.k {d : PyData} {v : V} (h : Dt K H v d) (k : Kt K H H') : Dt K H' v d := Dt.keep k _ _ h
theorem Dts.k {ds : List PyData} {vs : List V} (h : Dts K H vs ds) (k : Kt K H H') : Dts K H' vs ds := Dts.keep k _ _ h
theorem Dt.toDp {d : PyData} {v : V} (h : Dt K H v d) : Dp K H v d := Dt.dp _ _ h
theorem Dts.toDp {ds : List PyData} {vs : List V} (h : Dts K H vs ds) : DpAll K H vs ds := Dts.dp _ _ h
theorem Dt.inv {ds : List PyData} {v : V} (h : Dt K H v (.tuple ds)) : ∃ p xs, v = .ref p ∧ SqT K H p xs ∧ Dts K H xs ds := by
  cases h with
  | tup a b => exact ⟨_, _, rfl, a, b⟩
theorem Dt.str_inv {x : Str} {v : V} (h : Dt K H v (.str x)) : v = .str x := by cases h; rfl
theorem Dt.int_inv {i : Int} {v : V} (h : Dt K H v (.int i)) : v = .int i := by cases h; rfl
theorem Dts.len {ds : List PyData} {vs : List V} (h : Dts K H vs ds) : vs.length = ds.length := by
  induction ds generalizing vs with
  | nil => cases h; rfl
  | cons d ds ih =>
    cases h with
    | cons a b => rw [List.length_cons, List.length_cons, ih b]
theorem Dts.at {i : Nat} {ds : List PyData} {vs : List V} {v : V} (h : Dts K H vs ds) (g : vs[i]? = some v) : ∃ d, ds[i]? = some d ∧ Dt K H v d := by
  induction ds generalizing vs i with
  | nil =>
    cases h
    simp at g
  | cons d ds ih =>
    cases h with
    | cons a b =>
      cases i with
      | zero =>
        simp at g
        subst g
        exact ⟨d, rfl, a⟩
      | succ i => exact ih b (by simpa using g)
theorem Dts.get {i : Nat} {ds : List PyData} {vs : List V} {d : PyData} (h : Dts K H vs ds) (g : ds[i]? = some d) : ∃ v, vs[i]? = some v ∧ Dt K H v d := by
  have li := (List.getElem?_eq_some_iff.mp g).1
  obtain ⟨v, e⟩ : ∃ v, vs[i]? = some v := ⟨_, List.getElem?_eq_getElem (by rw [h.len]; exact li)⟩
  obtain ⟨d2, e2, a⟩ := h.at e
  rw [g] at e2
  cases e2
  exact ⟨v, e, a⟩
theorem Dts.app {ds es : List PyData} {vs ws : List V} (h : Dts K H vs ds) (g : Dts K H ws es) : Dts K H (vs ++ ws) (ds ++ es) := by
  induction ds generalizing vs with
  | nil => cases h; exact g
  | cons d ds ih =>
    cases h with
    | cons a b => exact .cons a (ih b)
theorem Dts.snoc {ds : List PyData} {d : PyData} {vs : List V} {v : V} (h : Dts K H vs ds) (g : Dt K H v d) : Dts K H (vs ++ [v]) (ds ++ [d]) := h.app (.cons g .nil)
theorem Dts.take {ds : List PyData} {vs : List V} (h : Dts K H vs ds) : ∀ n, Dts K H (vs.take n) (ds.take n) := by
  induction ds generalizing vs with
  | nil => cases h; intro n; simp; exact .nil
  | cons d ds ih =>
    cases h with
    | cons a b =>
      intro n
      cases n with
      | zero => exact .nil
      | succ n => exact .cons a (ih b n)
theorem Dts.drop {ds : List PyData} {vs : List V} (h : Dts K H vs ds) : ∀ n, Dts K H (vs.drop n) (ds.drop n) := by
  induction ds generalizing vs with
  | nil => cases h; intro n; simp; exact .nil
  | cons d ds ih =>
    cases h with
    | cons a b =>
      intro n
      cases n with
      | zero => exact .cons a b
      | succ n => exact ih b n
theorem dts_str : ∀ ss : List Str, Dts K H (ss.map V.str) (ss.map PyData.str)
  | [] => .nil
  | s :: ss => .cons (.str s) (dts_str ss)
theorem dts_str_inv {ss : List Str} {vs : List V} (h : Dts K H vs (ss.map PyData.str)) : vs = ss.map V.str := by
  induction ss generalizing vs with
  | nil => cases h; rfl
  | cons s ss ih =>
    cases h with
    | cons a b => rw [a.str_inv, ih b]; rfl
theorem dts_int : ∀ ns : List Int, Dts K H (ns.map V.int) (ns.map PyData.int)
  | [] => .nil
  | s :: ss => .cons (.int s) (dts_int ss)
theorem dts_int_inv {ns : List Int} {vs : List V} (h : Dts K H vs (ns.map PyData.int)) : vs = ns.map V.int := by
  induction ns generalizing vs with
  | nil => cases h; rfl
  | cons s ss ih =>
    cases h with
    | cons a b => rw [a.int_inv, ih b]; rfl
theorem dt_tup {p : Addr} {xs : List V} {ds : List PyData} (h : H p = some (.tup xs)) (g : Dts K H xs ds) : Dt K H (.ref p) (.tuple ds) := .tup (SqT.of h) g
end
/-- data that == may be asked of: texts in the line, not deep -/
def Fine (n : Nat) (d : PyData) : Prop := d.canLay0 = true ∧ d.depth ≤ n
theorem fine_int {n : Nat} (i : Int) : Fine n (.int i) := ⟨by simp [PyData.canLay0], by simp [PyData.depth]⟩
theorem fine_tup {n : Nat} {ds : List PyData} (h : ∀ d ∈ ds, Fine n d) : Fine (n + 1) (.tuple ds) := by
  have q : PyData.canLayAll0 ds = true ∧ PyData.depthAll ds ≤ n := by
    induction ds with
    | nil => simp [PyData.canLayAll0, PyData.depthAll]
    | cons d ds ih =>
      have h1 := h d (by simp)
      have h2 := ih fun y m => h y (List.mem_cons_of_mem _ m)
      simp only [PyData.canLayAll0, PyData.depthAll, h1.1, h2.1, Bool.and_self, true_and]
      have := h1.2
      have := h2.2
      omega
  exact ⟨by simp only [PyData.canLay0]; exact q.1, by simp only [PyData.depth]; have := q.2; omega⟩
theorem fine_str {n : Nat} {x : Str} (h : x.cps.all (· < 0x110000) = true) : Fine n (.str x) := ⟨by simp only [PyData.canLay0]; exact h, by simp [PyData.depth]⟩
theorem fine_num {n : Nat} {ds : List Nat} (h : ∀ d ∈ ds, d ≤ 9) : Fine n (.str (numS ds)) := by
  refine fine_str ?_
  rw [← Array.all_toList, List.all_eq_true]
  intro c m
  obtain ⟨d, md, rfl⟩ := List.mem_map.mp (show c ∈ codes ds from m)
  have := h d md
  exact decide_eq_true (by omega)
theorem Fine.shaped {n : Nat} {d : PyData} (h : Fine n d) (l : n ≤ 64) : SeqAt.shaped d = true := by
  have e : decide (d.depth ≤ 64) = true := decide_eq_true (Nat.le_trans h.2 l)
  show (d.canLay0 && _) = true
  rw [e, Bool.and_true]
  exact h.1
theorem Fine.refl {n : Nat} {d : PyData} (h : Fine n d) : PyData.eqv d d = true := SeqAt.eqv_refl d h.1
theorem Fine.mono {n m : Nat} {d : PyData} (h : Fine n d) (l : n ≤ m) : Fine m d := ⟨h.1, Nat.le_trans h.2 l⟩
end Dv

/-! A list or a tuple, told by a letter; loops over it that may write elsewhere. -/
namespace Kd
open PySem PySem.Spec PyProof.Rows L2
/-- the list or (t) the tuple at a -/
def Is (K : PySem.W.Frag) (t : Bool) (H : Hp) (a : Addr) (xs : List V) : Prop := if t = true then SqT K H a xs else SqL K H a xs
theorem Is.keep {K : PySem.W.Frag} {t : Bool} {H H' : Hp} {a : Addr} {xs : List V} (s : Same H H') (h : Is K t H a xs) : Is K t H' a xs := by
  cases t
  · exact Hf.keepL s h
  · exact Hf.keepT s h
theorem Is.sq {K : PySem.W.Frag} {t : Bool} {H : Hp} {a : Addr} {xs : List V} (h : Is K t H a xs) : SqL K H a xs ∨ SqT K H a xs := by
  cases t
  · exact .inl h
  · exact .inr h
theorem Is.tup {K : PySem.W.Frag} {H : Hp} {a : Addr} {xs : List V} (h : SqT K H a xs) : Is K true H a xs := h
theorem Is.lst {K : PySem.W.Frag} {H : Hp} {a : Addr} {xs : List V} (h : SqL K H a xs) : Is K false H a xs := h
section
variable {X : Cx}
def iSeq (K : PySem.W.Frag) (tl : TE) : TI := fun σ H R => tl σ H fun x H1 => ∃ a xs t, x = .ref a ∧ Is K t H1 a xs ∧
  ∀ J G, Walk J xs.length G (YAt xs) → (∀ H', Is K t H' a xs → G H') → R J H1
theorem pi_seq {tg l : Expr} {tl : TE} (hl : PE X l tl) : PI X tg l (iSeq X.K tl) := by
  refine ⟨fun pins s σ H R I h => ?_⟩
  refine thn (hl.run pins s σ H _ I h) fun v s1 ⟨x, H1, I1, r1, q1⟩ => ?_
  obtain ⟨a, xs, t, e, hq, q⟩ := q1
  subst e
  cases r1
  cases t with
  | false =>
    have hq : SqL X.K H1 a xs := hq
    have q := q _ _ walk_list fun H' s => s
    obtain ⟨its, rv, p, hz⟩ := I1.list hq
    refine wpAny_pyIter_list p.isList ?_
    refine ⟨s1.heap.objs.size, [s1.heap.objs.size], _, _, H1, rfl, I1.kept (t' := s1.toks) fun b o e => Heap.get?_push_of_some _ e, turn_list a _, ⟨_, Heap.get?_push_size _ rfl, rfl, rfl⟩, fun b hb => ?_, q⟩
    have e : b = s1.heap.objs.size := by simpa using hb
    subst e
    exact I1.fpOk (Nat.le_refl _) (I1.hok.fresh (Nat.le_refl _))
  | true =>
    have hq : SqT X.K H1 a xs := hq
    have q := q _ _ walk_tup fun H' s => s
    obtain ⟨its, rv, p, hz⟩ := I1.tuple hq
    refine wpAny_pyIter_tuple (show s1.heap.IsTuple a its.toArray from p) ?_
    refine ⟨s1.heap.objs.size, [s1.heap.objs.size], _, _, H1, rfl, I1.kept (t' := s1.toks) fun b o e => Heap.get?_push_of_some _ e, turn_tuple a _, ⟨_, Heap.get?_push_size _ rfl, rfl, rfl⟩, fun b hb => ?_, q⟩
    have e : b = s1.heap.objs.size := by simpa using hb
    subst e
    exact I1.fpOk (Nat.le_refl _) (I1.hok.fresh (Nat.le_refl _))
end
end Kd

/-! Comprehensions whose items are told one by one. -/
namespace Lm
open PySem L2 Wm Dv
theorem list_is {α : Type} {ys zs : List α} (l : ys.length = zs.length) (h : ∀ (i : Nat) y, ys[i]? = some y → zs[i]? = some y) : ys = zs := by
  refine List.ext_getElem? fun i => ?_
  by_cases q : i < ys.length
  · rw [h i _ (List.getElem?_eq_getElem q), List.getElem?_eq_getElem q]
  · rw [List.getElem?_eq_none (by omega), List.getElem?_eq_none (by omega)]
theorem lc_map {K : PySem.W.Frag} {J : It} {n : Nat} {G : Hp → Prop} {xs : List V} (w : Walk J n G (YAt xs)) {g : TG} {te : TE} {vs : List Nat} {σ : L2.St} {H1 : Hp} {D : Addr} {Qd : Hp → Prop} (R : Nat → V → Hp → Prop)
    (mono : ∀ i y H H', R i y H → Kt K H H' → R i y H') (hD : H1 D = none) (hn : n ≤ 1000) (hG : ∀ H', Same H1 H' → G H')
    (hs : ∀ i x H', i < n → xs[i]? = some x → Same H1 H' → ∀ (Q : V → Hp → Prop) (Z : Hp → Prop), (∀ y H4, Same H' H4 → R i y H4 → Q y H4) → g x (wipe σ vs) H' fun σ2 H2 => wipe σ2 vs = wipe σ vs ∧ tYes σ2 H2 fun b H3 => if b = true then te σ2 H3 Q else Z H3)
    (hd : ∀ H ys, Same H1 H → H D = some (.lst ys) → ys.length = n → (∀ (i : Nat) y, ys[i]? = some y → R i y H) → Qd H) :
    ∃ W : Nat → Nat → Hp → Prop, (∃ m, W 0 m (upd H1 D (.lst []))) ∧ ∀ i m H, W i m H →
      (J.stop i H ∧ Qd H) ∨ (J.go i H ∧ ∃ Nx : Hp → Prop, (∀ H', Nx H' → ∃ m', m' < m ∧ W (i + 1) m' H') ∧ ∀ x H', J.yld i H x H' → g x (wipe σ vs) H' fun σ2 H2 => wipe σ2 vs = wipe σ vs ∧ tYes σ2 H2 fun b H3 =>
        if b = true then te σ2 H3 fun y H4 => ∃ acc, H4 D = some (.lst acc) ∧ acc.length < sizeLine ∧ Nx (upd H4 D (.lst (acc ++ [y]))) else Nx H3) := by
  refine lc_it (tt := tYes) w (fun i H => Same H1 H ∧ ∃ ys : List V, ys.length = i ∧ H D = some (.lst ys) ∧ ∀ j y, ys[j]? = some y → R j y H) ⟨same_new hD, [], rfl, upd_same, fun (j : Nat) (y : V) e => by simp at e⟩ (fun i H _ h => hG H h.1) (fun i x H H' hi hP hY => ?_) (fun H hP => ?_)
  · obtain ⟨sm, ys, el, hy, hR⟩ := hP
    obtain ⟨rfl, hx⟩ := hY
    refine hs i x H' hi hx sm _ _ (fun y H4 s4 r4 => ?_)
    · refine ⟨ys, s4 _ _ hy, by rw [el]; exact small1000 (by omega), same_mut (sm.trans s4) hD, ys ++ [y], by rw [List.length_append, el]; rfl, upd_same, fun j z hz => ?_⟩
      have k5 : Kt K H4 (upd H4 D (.lst (ys ++ [y]))) := Kt.lst (s4 _ _ hy)
      by_cases lj : j < ys.length
      · rw [List.getElem?_append_left lj] at hz
        exact mono _ _ _ _ (hR j z hz) ((Kt.same s4).trans k5)
      · rw [List.getElem?_append_right (by omega)] at hz
        have e0 : j - ys.length = 0 := by
          by_cases q : j - ys.length = 0
          · exact q
          · rw [List.getElem?_eq_none (by rw [List.length_singleton]; omega)] at hz
            cases hz
        rw [e0] at hz
        have ez : y = z := by simpa using hz
        have ej : j = i := by omega
        subst ez ej
        exact mono _ _ _ _ r4 k5
  · obtain ⟨sm, ys, el, hy, hR⟩ := hP
    exact hd H ys sm hy el hR
end Lm
namespace Kx
open PySem L2
def rLen (K : PySem.W.Frag) : List V → Hp → VK → Prop := fun xs H Q => ∃ p ys, xs = [.ref p] ∧ (SqL K H p ys ∨ SqT K H p ys) ∧ Q (.int (ys.length : Nat)) H
def rTup (K : PySem.W.Frag) : List V → Hp → VK → Prop := fun xs H Q => ∃ a ys, xs = [.ref a] ∧ SqT K H a ys ∧ Q (.ref a) H
def rTupOf (K : PySem.W.Frag) : List V → Hp → VK → Prop := fun xs H Q => ∃ p ys, xs = [.ref p] ∧ ((SqL K H p ys ∧ ∀ l, H l = none → Q (.ref l) (upd H l (.tup ys))) ∨ (SqT K H p ys ∧ Q (.ref p) H))
end Kx

/-! An exception made whose record has its six fields; raise X(..) from e in the suite that handles e. -/
namespace L2
open PySem PySem.Spec PyProof.Rows HotX
def PMkS (X : Cx) (e : Expr) (t : St → Hp → XK → Prop) : Prop :=
  ∀ (pins : List (Addr × Obj)) (s : Shared) (σ : St) (H : Hp) (Q : XK), Inv X pins σ H s → t σ H Q → wpAny (model X.prog X.w) X.A (eval e X.env) (fun u s' => MkP X pins σ Q u s' ∧ L2H.Six u s') X.xe s
theorem PMkS.pmk {X : Cx} {e : Expr} {t : St → Hp → XK → Prop} (h : PMkS X e t) : PMk X e t := fun pins s σ H Q I q => thn (h pins s σ H Q I q) fun _ _ x => x.1
end L2

/-! try: .. except A as n: .. except B as m: .. (any number of clauses, each with its name). -/
namespace Ta
open PySem PySem.Spec PyProof.Rows L2
/-- one clause: the class that it names, the slot of its name, what its suite does -/
structure Hd where
  c : Value
  i : Nat
  ts : Addr → Value → Option Addr → TS
/-- behind a suite its name is gone -/
def Off (D : Ends) (i : Nat) : Ends where
  nx σ H := D.nx (σ.set i none) H
  rt := D.rt
  bk σ H := D.bk (σ.set i none) H
  ct σ H := D.ct (σ.set i none) H
/-- what the clauses ask of an exception that comes out of the body -/
def wish (K : PySem.W.Frag) (W : WX) (D : Ends) : List Hd → WX
  | [] => W
  | h :: r => fun cls d σ H => ∃ y, PySem.W.exmOne K cls h.c = some y ∧
      (y = true → ∀ a, H a = none → h.ts a cls d (Off D h.i) (σ.set h.i (some (.ref a))) H) ∧ (y = false → wish K W D r cls d σ H)
inductive Hds (X : Cx) : List ExceptHandler → List Hd → Prop
  | nil : Hds X [] []
  | cons {h : Hd} {x n : Str} {b₀ : Stmt} {rows : List Stmt} {p q : Pos} {hs : List ExceptHandler} {l : List Hd}
      (hi : X.N[h.i]? = some n) (hl : X.env.kindOf n = some .local) (hc : Names X x h.c)
      (hr : ∀ (a : Addr) (oe : Obj) (cls : Value) (d : Option Addr) (pn : List (Addr × Obj)), Zc cls d oe → (∃ vs, oe.data = .fields vs) →
        PSs (X.suite a ((a, oe) :: pn)) (b₀ :: rows) (h.ts a cls d))
      (t : Hds X hs l) : Hds X (.ExceptHandler (some (.Name x p)) (some n) (b₀ :: rows) q :: hs) (h :: l)
section
variable {X : Cx} {body : List Stmt} {hs : List ExceptHandler} {l : List Hd} {pos : Pos} {tb : WX → TS} {W : WX}
/-- how the body's own end is the whole one's -/
theorem calm_end {pins : List (Addr × Obj)} {D : Ends} {xe : Value → Shared → Prop} (ok : X.Ok) {f : Flow} {s : Shared} (h : SP (X.tr (X.pn ++ pins) xe) [] D f s) : SP X pins D f s := by
  cases f with
  | ret u =>
    obtain ⟨v, σ, H, J, r, q⟩ := h
    exact ⟨v, σ, H, J.ofTry ok, r, q⟩
  | next => obtain ⟨σ, H, J, q⟩ := h; exact ⟨σ, H, J.ofTry ok, q⟩
  | brk => obtain ⟨σ, H, J, q⟩ := h; exact ⟨σ, H, J.ofTry ok, q⟩
  | cont => obtain ⟨σ, H, J, q⟩ := h; exact ⟨σ, H, J.ofTry ok, q⟩
/-- an exception has landed at a: the clauses are asked one behind the other -/
theorem asked {pins : List (Addr × Obj)} {D : Ends} {a : Addr} {B h3 : Heap} {sI s' : Shared} {σ : L2.St} {H : Hp} {cls : Value} {d : Option Addr} (stk : X.stack = X.env :: X.outer) (fr : X.env.frame = some X.env.locals) (nd : X.N.Nodup) (tk : Takes X W)
    (J : Inv X pins σ H sI) (nb : ∀ b o, sI.heap.get? b = some o → b ∉ frs X.stack → B.get? b = some o) (up : sI.heap.UpToSlots s'.heap) (up3 : s'.heap.UpToSlots h3) (na : H a = none) (os : s'.os = sI.os) (ag : AllBare s'.gens)
    (fl : HandSPX.FlyingZ B (X.env :: X.outer) a (Zc cls d) h3) : ∀ {hs : List ExceptHandler} {l : List Hd}, Hds X hs l → wish X.K W D l cls d σ H →
    wpAny (model X.prog X.w) X.A (handleBy (.ref a) X.env hs) (SP X pins D) X.xe { s' with heap := h3 } := by
  have free : ∀ {g : Heap} {o : Obj} {vs : Array Value}, HandSPX.FlyingZ B (X.env :: X.outer) a (Zc cls d) g → g.get? a = some o → o.data = .fields vs → a ≠ X.env.locals ∧ a ∉ X.fs := by
    intro g o vs fg eo ed
    have out : a ∉ frs (X.env :: X.outer) := by
      intro m
      obtain ⟨_, o2, e2, no⟩ := fg.2.2.1.mem m
      cases eo.symm.trans e2
      exact no _ ed
    constructor
    · intro z
      exact out (List.mem_filterMap.mpr ⟨X.env, by simp, by rw [fr, z]⟩)
    · intro m
      obtain ⟨e, me, q⟩ := List.mem_filterMap.mp m
      exact out (List.mem_filterMap.mpr ⟨e, by simp [me], q⟩)
  intro hs l hk
  induction hk with
  | nil =>
    intro hW
    obtain ⟨_, _, _, oe, vs, _, _, _, eo, _, ed, e1, _⟩ := id fl
    refine wpAny_handleBy_nil ?_
    have out : wpAny (model X.prog X.w) X.A (setFlight (.ref a) X.env.frame) (fun _ t => wpAny (model X.prog X.w) X.A (throw (.ref a) : Sem Flow) (SP X pins D) X.xe t) X.xe { s' with heap := h3 } := by
      rw [fr]
      refine HandSPX.setFlight_upZ fl fun g hg ug => ?_
      have sky : Sky B X.stack a (Zc cls d) X.env.locals g := by
        rw [stk]
        exact .inr (.inr hg)
      exact wpAny_throw (tk _ _ ⟨a, B, sI, pins, σ, H, cls, d, rfl, J, nb, (up.trans up3).trans ug, sky, na, os, ag, hW⟩)
    unfold PySem.passOn
    refine wpAny_bind (wpAny_field eo ed e1 ?_)
    rw [if_neg (by simp)]
    first
      | exact wpAny_bind out
      | exact wpAny_bind (wpAny_pure (wpAny_bind out))
  | @cons h x n b₀ rows p q hs l hi hl hc hr t ih =>
    rintro ⟨y, ey, yes, no⟩
    obtain ⟨oe, vs, eo, ez, ed⟩ := fl.there
    obtain ⟨n1, n2⟩ := free fl eo ed
    have J3 := J.landed nb fl.1 (s' := { s' with heap := h3 }) (up.trans up3) os ag
    have S3 := J3.suite eo ed na n1 n2
    have kind : PySem.W.Looks (model X.prog X.w) h3 (typeOf (.ref a)) cls := by
      intro A Q E z k q
      refine wpAny_typeOf_ref (k _ _ eo) ?_
      rw [ez.1]
      exact q
    have one := PySem.W.exm_one (M := model X.prog X.w) J3.kIn kind ey
    refine wpAny_handleBy_cons (codeAny_handlers_test ?_) (by intro z; cases z)
    have name : ∀ {Q E : Value → Shared → Prop}, Q h.c { s' with heap := h3 } → wpAny (model X.prog X.w) (X.A.mark (some (.ref a))) (eval (.Name x p) X.env) Q E { s' with heap := h3 } := by
      intro Q E qq
      rcases hc with ⟨g1, g2, g3 | ⟨g3, g4, g5⟩⟩
      · exact ld_glob (X := X.suite a ((a, oe) :: (X.pn ++ pins))) S3 g1 g3 qq g2
      · exact ld_blt (X := X.suite a ((a, oe) :: (X.pn ++ pins))) S3 g1 g3 g4 qq g5 g2
    refine name (one.here ?_)
    cases y with
    | false => exact ih (no rfl)
    | true =>
      refine codeAny_handlers_suite_as ?_
      refine HandSPX.lands_againZ fl fun g fg ug => ?_
      obtain ⟨oe2, vs2, eo2, ez2, ed2⟩ := fg.there
      obtain ⟨m1, m2⟩ := free fg eo2 ed2
      have J4 := J.landed nb fg.1 (s' := { s' with heap := g }) ((up.trans up3).trans ug) os ag
      refine store_ok (X := X.suite a ((a, oe2) :: (X.pn ++ pins))) (v := .ref a) (J4.suite eo2 ed2 na m1 m2) nd hi (.inl hl) rfl (fun s5 S5 => ?_) (.inr hl)
      have body := (hr a oe2 cls d (X.pn ++ pins) ez2 ⟨_, ed2⟩).run [] s5 _ H _ S5 (yes rfl a na)
      refine wpAny_mono body (fun f s6 end6 => ?_) fun _ _ z => z.elim
      have ok := J.ok
      cases f with
      | ret u =>
        obtain ⟨v6, σ6, H6, S6, r6, q6⟩ := end6
        exact gone_ok (S6.unsuite ok) nd hi hl fun s7 J7 => ⟨_, _, _, J7, r6, q6⟩
      | next =>
        obtain ⟨σ6, H6, S6, q6⟩ := end6
        exact gone_ok (S6.unsuite ok) nd hi hl fun s7 J7 => ⟨_, _, J7, q6⟩
      | brk =>
        obtain ⟨σ6, H6, S6, q6⟩ := end6
        exact gone_ok (S6.unsuite ok) nd hi hl fun s7 J7 => ⟨_, _, J7, q6⟩
      | cont =>
        obtain ⟨σ6, H6, S6, q6⟩ := end6
        exact gone_ok (S6.unsuite ok) nd hi hl fun s7 J7 => ⟨_, _, J7, q6⟩
theorem ps_try_ass {h₀ : ExceptHandler} {h1 : Hd} (stk : X.stack = X.env :: X.outer) (fr : X.env.frame = some X.env.locals) (nd : X.N.Nodup) (tk : Takes X W)
    (hb : ∀ (U : WX) (pn : List (Addr × Obj)) (xe : Value → Shared → Prop), Takes (X.tr pn xe) U → PassesOwn (model X.prog X.w) X.A X.env xe → PSs (X.tr pn xe) body (tb U))
    (hh : Hds X (h₀ :: hs) (h1 :: l)) : PS X (.Try body (h₀ :: hs) [] [] pos) (fun D σ H => tb (wish X.K W D (h1 :: l)) D σ H) := by
  constructor
  intro pins s σ H D I go
  have ok := I.ok
  refine wpAny_Try_except ?_
  have run := (hb (wish X.K W D (h1 :: l)) (X.pn ++ pins) (fun e t1 => wpAny (model X.prog X.w) X.A (noteFrame e X.env) (fun _ t2 =>
    wpAny (model X.prog X.w) X.A (setFlight e none) (fun _ t3 => wpAny (model X.prog X.w) X.A (handleBy e X.env (h₀ :: hs)) (SP X pins D) X.xe t3) X.xe t2) X.xe t1) ?_ PassesOwn.looking).run [] s σ H D (I.toTry _) go
  · refine wpAny_mono run (fun f s1 e1 => ?_) fun _ _ z => z
    have e2 := calm_end ok e1
    cases f with
    | next => exact wpAny_execs_nil e2
    | ret u => exact e2
    | brk => exact e2
    | cont => exact e2
  · intro u s' xx
    obtain ⟨a, B, sI, pins2, σ', H', cls, d, rfl, J', nb, up, sky, na, os, ag, hw⟩ := xx
    have sky2 : Sky B (X.env :: X.outer) a (Zc cls d) X.env.locals s'.heap := by
      rw [← stk]
      exact sky
    show wpAny (model X.prog X.w) X.A (noteFrame (.ref a) X.env) _ _ _
    exact Sky.land Zc.steady (by rw [ok.frames, stk]) fr sky2 fun h3 fl up3 => asked stk fr nd tk (J'.ofTry ok) nb up up3 na os ag fl hh hw
end
end Ta

/-! raise X(..) from e, in the suite that handles e under its own name; try: .. except C as n: suite that raises. -/
namespace Rf
open PySem PySem.Spec PyProof.Rows L2 HotX
/-- the new record says: because of x1 -/
def caused (h : Heap) (a x1 : Addr) : Heap := (h.update a (Obj.mapFields (·.setIfInBounds 3 (.ref x1)))).update a (Obj.mapFields (·.setIfInBounds 4 (.bool true)))
theorem caused_self {h : Heap} {a x1 : Addr} {o : Obj} {vs : Array Value} (e : h.get? a = some o) (d : o.data = .fields vs) :
    (caused h a x1).get? a = some ((o.mapFields (·.setIfInBounds 3 (.ref x1))).mapFields (·.setIfInBounds 4 (.bool true))) ∧ ((o.mapFields (·.setIfInBounds 3 (.ref x1))).mapFields (·.setIfInBounds 4 (.bool true))).data = .fields ((vs.setIfInBounds 3 (.ref x1)).setIfInBounds 4 (.bool true)) := by
  have d1 := Obj.data_mapFields d (·.setIfInBounds 3 (.ref x1))
  have e1 := Heap.get?_update_self (Obj.mapFields (·.setIfInBounds 3 (.ref x1))) e (Obj.isFreed_of_fields d1)
  have d2 := Obj.data_mapFields d1 (·.setIfInBounds 4 (.bool true))
  exact ⟨Heap.get?_update_self (Obj.mapFields (·.setIfInBounds 4 (.bool true))) e1 (Obj.isFreed_of_fields d2), d2⟩
theorem caused_off {h : Heap} {a b x1 : Addr} (n : a ≠ b) : (caused h a x1).get? b = h.get? b := (Heap.get?_update_other _ _ n).trans (Heap.get?_update_other _ _ n)
/-- what stands ready: the new exception at a, the handled one at x1 -/
structure Ready (M : Model) (A : Around) (x1 : Addr) (c : Sem Value) (E : Value → Shared → Prop) (v : Value) (t : Shared) : Prop where
  ex : ∃ (a : Addr) (o : Obj) (vs : Array Value) (cls : Value) (o1 : Obj) (c1 : Value), v = .ref a ∧ t.heap.get? a = some o ∧ o.cls = cls ∧ o.data = .fields vs ∧ vs[1]? = some .none ∧ 4 < vs.size ∧ x1 ≠ a ∧ HotAt A x1 t.heap ∧ t.heap.get? x1 = some o1 ∧ o1.cls = c1 ∧
    PySem.W.Looks M t.heap (isSubtype cls (.type "BaseException")) true ∧ PySem.W.Looks M t.heap (isSubtype c1 (.type "BaseException")) true ∧ PySem.W.Looks M (caused t.heap a x1) (typeOf cls) (.type "type") ∧
    E (.ref a) { t with heap := (caused t.heap a x1).update a (Obj.mapFields (·.setIfInBounds 2 (.ref x1))) }
  cause : ∀ Q : Value → Shared → Prop, Q (.ref x1) t → wpAny M A c Q E t
theorem no_type {M : Model} {A : Around} {E : Value → Shared → Prop} {a : Addr} {o : Obj} {vs : Array Value} {t : Shared} {Q : Bool → Shared → Prop} (e : t.heap.get? a = some o) (d : o.data = .fields vs) (q : Q false t) : wpAny M A (isType (.ref a)) Q E t := by
  simp only [isType, loadHead]
  refine wpAny_bind (wpAny_loadPart e ?_)
  rw [d]
  exact wpAny_pure q
theorem raise_from {prog : Program} {w : World} {A : Around} {E : Value → Shared → Prop} {env : Env} {s : Shared} {x c : Sem Value} {Q : Flow → Shared → Prop} {x1 : Addr} (h : wpAny (model prog w) A x (Ready (model prog w) A x1 c E) E s) :
    wpAny (model prog w) A (raiseStmt env (some x) (some c)) Q E s := by
  unfold raiseStmt
  dsimp only
  refine wpAny_bind (wpAny_mono h (fun v t r => ?_) fun _ _ z => z)
  obtain ⟨⟨a, o, vs, cls, o1, c1, rfl, ea, ec, ed, e1, big, ne, hot, ex1, ec1, L, L1, LT, go⟩, cause⟩ := r
  obtain ⟨hh, o1', vs1, f1, fd, fn⟩ := id hot
  rw [ex1] at f1
  cases f1
  have kind : PySem.W.Looks (model prog w) t.heap (isInstance (.ref a) (.type "BaseException")) true :=
    PySem.W.Looks.andThen (fun B Q E z k q => wpAny_typeOf_ref (k _ _ ea) (by rw [ec]; exact q)) L
  have kind1 : PySem.W.Looks (model prog w) t.heap (isInstance (.ref x1) (.type "BaseException")) true :=
    PySem.W.Looks.andThen (fun B Q E z k q => wpAny_typeOf_ref (k _ _ ex1) (by rw [ec1]; exact q)) L1
  obtain ⟨eb, db⟩ := caused_self (x1 := x1) ea ed
  have d3 := Obj.data_mapFields ed (·.setIfInBounds 3 (.ref x1))
  have e3 := Heap.get?_update_self (Obj.mapFields (·.setIfInBounds 3 (.ref x1))) ea (Obj.isFreed_of_fields d3)
  have z3 : 3 < vs.size := by omega
  have z4 : 4 < (vs.setIfInBounds 3 (Value.ref x1)).size := by rw [set_size]; exact big
  have z2 : 2 < ((vs.setIfInBounds 3 (Value.ref x1)).setIfInBounds 4 (Value.bool true)).size := by rw [set_size, set_size]; omega
  have tb : ((vs.setIfInBounds 3 (Value.ref x1)).setIfInBounds 4 (Value.bool true))[1]? = some Value.none := set_other (by decide) (set_other (by decide) e1)
  have cb : ((o.mapFields (·.setIfInBounds 3 (.ref x1))).mapFields (·.setIfInBounds 4 (.bool true))).cls = cls := by rw [Obj.cls_mapFields, Obj.cls_mapFields, ec]
  have hotb : HotAt A x1 (caused t.heap a x1) := ⟨hh, o1, vs1, (caused_off (Ne.symm ne)).trans ex1, fd, fn⟩
  have own : PySem.W.Looks (model prog w) (caused t.heap a x1) (typeOf (.ref a)) cls := fun B Q E z k q => wpAny_typeOf_ref (k _ _ eb) (by rw [cb]; exact q)
  have last : wpAny (model prog w) A (do
      let q ← isType (.ref a)
      if q = true then do
        let e ← holding [.ref a] (raisedFor (.ref a) (.ref a)); setFlight e none; raiseNew e
      else do
        let e ← raisedInstance (.ref a); setFlight e none; raiseNew e : Sem Flow) Q E { t with heap := caused t.heap a x1 } := by
    refine wpAny_bind (no_type eb db ?_)
    simp only [Bool.false_eq_true, if_false]
    unfold raisedInstance
    refine wpAny_bind (wpAny_bind (own.here (wpAny_bind (LT.here ?_))))
    rw [if_pos (beq_self_eq_true _)]
    refine wpAny_pure ?_
    unfold setFlight
    refine wpAny_bind (wpAny_bind (wpAny_field eb db tb ?_))
    rw [if_neg (by decide)]
    exact wpAny_pure (raiseNew_hot hotb ne eb db z2 go)
  refine wpAny_bind (wpAny_holding (cause _ (wpAny_bind (wpAny_pure ?_))))
  dsimp only
  refine wpAny_bind (wpAny_holding ?_)
  unfold excFromValue isExcClass
  refine wpAny_bind (wpAny_bind (no_type ea ed ?_))
  simp only [Bool.false_eq_true, if_false]
  refine wpAny_pure ?_
  simp only [Bool.false_eq_true, if_false]
  refine wpAny_bind (kind.here ?_)
  simp only [if_true]
  refine wpAny_pure ?_
  rw [if_neg (show ¬ ((Value.ref x1 == Value.none) = true) by simp)]
  refine wpAny_bind (wpAny_holding (wpAny_bind (wpAny_bind (no_type ex1 fd ?_))))
  simp only [Bool.false_eq_true, if_false]
  refine wpAny_pure ?_
  simp only [Bool.false_eq_true, if_false]
  refine wpAny_bind (kind1.here ?_)
  simp only [if_true]
  refine wpAny_pure ?_
  refine wpAny_bind (wpAny_setField ea ed z3 (wpAny_bind (wpAny_setField e3 d3 z4 ?_)))
  exact last
section
variable {X : Cx}
/-- the handled exception, named by slot i -/
theorem ps_raise_from {W : WX} {e : Expr} {t : L2.St → Hp → XK → Prop} {i : Nat} {n : Str} {np pos : Pos} {x1 : Addr} {o1 : Obj} {vs1 : Array Value} (hh : X.A.handled = some (.ref x1)) (hp : (x1, o1) ∈ X.pn) (d1 : o1.data = .fields vs1) (n1 : vs1[2]? = some .none)
    (tk : L2.Takes X W) (he : PMkS X e t) (hN : X.N[i]? = some n) (hv : X.env.kindOf n = some .local) (hd : (n == ("__debug__" : Str)) = false := by decide) :
    PS X (.Raise (some e) (some (.Name n np)) pos) (fun _ σ H => PySem.W.subIn X.K o1.cls (.type "BaseException") = some true ∧ σ[i]? = some (some (.ref x1)) ∧ t σ H fun cls d H' => W cls d σ H') := by
  refine ⟨fun pins s σ H D I h => ?_⟩
  obtain ⟨sub, hσ, h⟩ := h
  show wpAny _ _ (do standAt pos; raiseStmt X.env (some (do let v ← eval e X.env; standAt pos; pure v)) (some (do let v ← eval (.Name n np) X.env; standAt pos; pure v))) _ _ _
  refine wpAny_bind (wpAny_standAt (raise_from (x1 := x1) (wpAny_bind (wpAny_mono (he pins s σ H _ I h) (fun u s1 hu => wpAny_bind (wpAny_standAt (wpAny_pure ?_))) fun _ _ z => z))))
  obtain ⟨⟨a, oe, vs, sI, H', cls, d, rfl, J, k, ne, ea, ez, ed, e1, na, os, ag, r, q⟩, six⟩ := hu
  have big : 4 < vs.size := six a oe vs rfl ea ed
  have P1 := (J.pin (x1, o1) (List.mem_append_left _ hp)).1
  have nx : x1 ≠ a := fun z => by
    rw [← z] at ne
    rw [P1] at ne
    cases ne
  have kb : ∀ b u, sI.heap.get? b = some u → (caused s1.heap a x1).get? b = some u := fun b u z => by
    rw [caused_off fun y => by rw [← y, ne] at z; cases z]
    exact k b u z
  obtain ⟨eb, db⟩ := caused_self (x1 := x1) ea ed
  have J1 : Inv X pins σ H' s1 := J.landed (B := sI.heap) (fun _ _ z _ => z) k (Heap.UpToSlots.of_keeps k) os ag
  obtain ⟨r1, _⟩ := r (model X.prog X.w) s1.heap (J.kIn.keeps k)
  obtain ⟨_, r2⟩ := r (model X.prog X.w) (caused s1.heap a x1) (J.kIn.keeps kb)
  have tb : (((vs.setIfInBounds 3 (Value.ref x1)).setIfInBounds 4 (Value.bool true)).setIfInBounds 2 (Value.ref x1))[1]? = some Value.none := set_other (by decide) (set_other (by decide) (set_other (by decide) e1))
  refine ⟨⟨a, oe, vs, cls, o1, o1.cls, rfl, ea, ez.1, ed, e1, big, nx, ⟨hh, o1, vs1, k _ _ P1, d1, n1⟩, k _ _ P1, rfl, r1, PySem.W.looks_subIn (J.kIn.keeps k) sub, r2, tk _ _ (L2.XE.new J (fun b u z => ?_) ne (Heap.get?_update_self _ eb (Obj.isFreed_of_fields (Obj.data_mapFields db _)))
    ⟨by rw [Obj.cls_mapFields, Obj.cls_mapFields, Obj.cls_mapFields]; exact ez.1, by rw [HandSPX.dict_mapFields, HandSPX.dict_mapFields, HandSPX.dict_mapFields]; exact ez.2⟩ (Obj.data_mapFields db _) tb na os ag q)⟩, fun Q0 q0 => ?_⟩
  · show ((caused s1.heap a x1).update a (Obj.mapFields (·.setIfInBounds 2 (.ref x1)))).get? b = some u
    rw [Heap.get?_update_other _ _ fun y => by rw [← y, ne] at z; cases z]
    exact kb b u z
  · obtain ⟨m, hn, hl⟩ := J1.loc
    obtain ⟨u, ru, l⟩ := hl i n (.ref x1) hN hσ (.inl hv)
    obtain rfl : u = Value.ref x1 := ru
    rcases l with ⟨_, hm⟩ | ⟨hk, _⟩
    · exact wpAny_bind (wpAny_Name (wpAny_loadName_local J1.ok.kind hv hn hm (wpAny_bind (wpAny_standAt (wpAny_pure q0)))) hd)
    · rcases hk with hk | hk
      · rw [hv] at hk; cases hk
      · rw [hv] at hk; cases hk
end
/-- an except suite that lets something out -/
abbrev sx (X : Cx) (a : Addr) (pn : List (Addr × Obj)) (xe : Value → Shared → Prop) : Cx := { X with A := X.A.mark (some (.ref a)), calm := false, pn := pn, xe := xe }
section
variable {X : Cx}
/-- it leaves the def though a local of the def has changed since -/
theorem held_leave {a : Addr} {B : Heap} {sI s' : Shared} {pins : List (Addr × Obj)} {σ : L2.St} {H : Hp} {cls : Value} {d : Option Addr} {E : XK} {E₁ : Value → Shared → Prop} (fr : X.env.frame = some X.env.locals) (hex : X.ex = [])
    (I : Inv X pins σ H sI) (nb : ∀ b o, sI.heap.get? b = some o → b ∉ frs X.stack → B.get? b = some o) (up : ∀ b o, b ≠ X.env.locals → sI.heap.get? b = some o → (∀ vs, o.data ≠ .fields vs) → ∃ sl, s'.heap.get? b = some { o with slots := sl })
    (held : HandSPX.HeldZ B (X.env :: X.outer) a (Zc cls d) X.env.locals s'.heap) (na : H a = none) (os : s'.os = sI.os) (ag : AllBare s'.gens) (w : E cls d H) :
    wpAny (model X.prog X.w) X.A (leaving X.env (.ref a)) (fun _ s'' => L2.CX X.prog X.w X.outer X.H_0 X.s_0 E (.ref a) s'') E₁ s' := by
  have old : ∀ b o, X.s_0.heap.get? b = some o → b ≠ X.env.locals := fun b o e z => by
    have h1 := Heap.lt_size e
    have h2 := I.ok.above
    rw [z] at h1
    exact absurd (Nat.lt_of_lt_of_le h1 h2) (Nat.lt_irrefl _)
  have off : ∀ b o, X.s_0.heap.get? b = some o → b ∉ X.fs → b ∉ frs X.stack := fun b o e hb m => (List.mem_cons.mp (I.stkSub b m)).elim (old b o e) hb
  have nex : ∀ b, b ∉ X.ex := fun b m => by rw [hex] at m; cases m
  refine HandSPX.leaves_heldZ fr held fun g fg ug => ?_
  refine ⟨a, B, H, cls, d, rfl, fg, I.inGround nb, ⟨fun b o e n hb => ?_, fun b o e hb => ?_, fun b o e n => I.base.free b o e n (nex b), fun b o e hb => ?_, I.base.tups, I.base.frzs, I.base.tbls⟩, na, os.trans I.os, ag, w⟩
  · exact nb b o (I.base.keep b o e n hb (nex b)) (off b o e hb)
  · obtain ⟨_, o2, e2, rec⟩ := I.ok.funs.mem hb
    cases e.symm.trans e2
    obtain ⟨l1, q1⟩ := I.base.slot b o e (I.ok.frf b hb) hb (nex b)
    obtain ⟨l2, q2⟩ := up b _ (old b o e) q1 rec
    obtain ⟨l3, q3⟩ := ug b _ q2 rec
    exact ⟨l3, q3⟩
  · obtain ⟨o2, e2⟩ := I.base.there b o e (nex b)
    exact ⟨o2, nb b o2 e2 (off b o e hb)⟩
/-- what the one clause asks: it names the exception -/
def yes (K : PySem.W.Frag) (c : Value) (i : Nat) (ts : Addr → Value → Option Addr → TS) (D : Ends) : WX := fun cls d σ H => PySem.W.exmOne K cls c = some true ∧ ∀ a, H a = none → ts a cls d (Ta.Off D i) (σ.set i (some (.ref a))) H
/-- frames other than L stand where L alone changes -/
theorem funs_but {L : Addr} {h h' base : Heap} (k : ∀ b, b ≠ L → h'.get? b = h.get? b) : ∀ {l : List Env}, (∀ b ∈ frs l, b ≠ L) → h.FunFrames base l → h'.FunFrames base l
  | [], _, _ => trivial
  | env :: r, ne, ⟨q, ⟨f, o, ef, eb, eo, rec⟩, more⟩ => by
    have ff : f ∈ frs (env :: r) := List.mem_filterMap.mpr ⟨env, List.mem_cons_self, ef⟩
    refine ⟨q, ⟨f, o, ef, eb, (k f (ne f ff)).trans eo, rec⟩, funs_but k (fun b m => ne b ?_) more⟩
    obtain ⟨e, me, z⟩ := List.mem_filterMap.mp m
    exact List.mem_filterMap.mpr ⟨e, List.mem_cons_of_mem _ me, z⟩
theorem held_but {L a : Addr} {h h' B : Heap} {env : Env} {outer : List Env} {cls : Value} {d : Option Addr} {m : Str → Option Value} (fr : env.frame = some L) (held : HandSPX.HeldZ B (env :: outer) a (Zc cls d) L h) (ne : ∀ b ∈ frs outer, b ≠ L) (k : ∀ b, b ≠ L → h'.get? b = h.get? b) (ns : h'.Ns L m) :
    HandSPX.HeldZ B (env :: outer) a (Zc cls d) L h' := by
  obtain ⟨st, fresh, ⟨q, ⟨f, o, ef, eb, eo, rec⟩, more⟩, oe, vs, T, oT, ts, ea, ez, ed, e1, nT, Tne, eT, dT, e3⟩ := held
  rw [fr] at ef
  cases ef
  have na : a ≠ L := fun z => by
    rw [z, eo] at ea
    cases ea
    exact rec _ ed
  have nL : T ≠ L := fun z => by
    rw [z, eo] at eT
    cases eT
    exact rec _ dT
  obtain ⟨oL, es, ep, hoL, hdL, _⟩ := ns
  refine ⟨fun b u e => (k b fun z => by rw [z, eb] at e; cases e).trans (st b u e), fresh, ⟨q, ⟨L, oL, fr, eb, hoL, fun vs z => by rw [hdL] at z; cases z⟩, funs_but k ne more⟩, oe, vs, T, oT, ts, (k a na).trans ea, ez, ed, e1, nT, Tne, (k T nL).trans eT, dT, e3⟩
/-- raise X(..) from n, in n's own suite -/
theorem ps_raise_sx {W : WX} {e : Expr} {t : L2.St → Hp → XK → Prop} {i : Nat} {n : Str} {np pos : Pos} {a : Addr} {oe : Obj} {cls : Value} {d : Option Addr} {pn : List (Addr × Obj)} {xe : Value → Shared → Prop} (hz : L2N.Zn cls d oe) (hf : ∃ vs, oe.data = .fields vs) (tk : L2.Takes (sx X a ((a, oe) :: pn) xe) W)
    (he : PMkS (sx X a ((a, oe) :: pn) xe) e t) (hN : X.N[i]? = some n) (hv : X.env.kindOf n = some .local) (hd : (n == ("__debug__" : Str)) = false := by decide) :
    PS (sx X a ((a, oe) :: pn) xe) (.Raise (some e) (some (.Name n np)) pos) (fun _ σ H => PySem.W.subIn X.K cls (.type "BaseException") = some true ∧ σ[i]? = some (some (.ref a)) ∧ t σ H fun cls d H' => W cls d σ H') := by
  obtain ⟨vs, e1⟩ := hf
  have r := ps_raise_from (X := sx X a ((a, oe) :: pn) xe) (pos := pos) (np := np) (o1 := oe) (i := i) (n := n) rfl List.mem_cons_self e1 (hz.2.2 vs e1) tk he hN hv hd
  rw [hz.1] at r
  exact r
/-- an exception without a context is one -/
theorem xe_of {W : WX} {u : Value} {s : Shared} (x : L2N.XE X W u s) : L2.XE X W u s := by
  obtain ⟨a, B, sI, pins, σ, H, cls, d, e, I, nb, up, sky, na, os, ag, w⟩ := x
  refine ⟨a, B, sI, pins, σ, H, cls, d, e, I, nb, up, ?_, na, os, ag, w⟩
  have z : ∀ o, L2N.Zn cls d o → Zc cls d o := fun o h => h.zc
  rcases sky with ⟨h1, h2, h3, oe, vs, h4, h5, h6⟩ | ⟨h1, h2, h3, oe, vs, T, oT, ts, h4, h5, h6⟩ | ⟨h1, h2, h3, oe, vs, T, oT, ts, h4, h5, h6⟩
  · exact .inl ⟨h1, h2, h3, oe, vs, h4, z _ h5, h6⟩
  · exact .inr (.inl ⟨h1, h2, h3, oe, vs, T, oT, ts, h4, z _ h5, h6⟩)
  · exact .inr (.inr ⟨h1, h2, h3, oe, vs, T, oT, ts, h4, z _ h5, h6⟩)
theorem passN {W : WX} (tk : L2.Takes X W) (σ : L2.St) : PassesAt (L2N.CX X.prog X.w) X σ (WE W σ) := fun _ _ _ e s' I c => tk e s' (xe_of (L2N.XE.of_call I (fun _ _ _ h => h) c))
theorem to_sx {a : Addr} {pn pn' : List (Addr × Obj)} {xe : Value → Shared → Prop} {σ : L2.St} {H : Hp} {s : Shared} (I : Inv (X.suite a pn) pn' σ H s) : Inv (sx X a pn xe) pn' σ H s := Inv.unwish (X := sx X a pn xe) (E := fun _ _ => False) I
theorem of_sx {a : Addr} {pn pn' : List (Addr × Obj)} {xe : Value → Shared → Prop} {σ : L2.St} {H : Hp} {s : Shared} (I : Inv (sx X a pn xe) pn' σ H s) : Inv (X.suite a pn) pn' σ H s := I.wish fun _ _ => False
/-- try: body, except C as n: a suite that may raise out of the def; the body raises nothing that C doesn't name -/
theorem ps_try_asR {x n : Str} {c : Value} {i : Nat} {b₀ : Stmt} {rows body : List Stmt} {p q pos : Pos} {tb : WX → TS} {ts : Addr → Value → Option Addr → TS} {E : XK} {E₁ : Value → Shared → Prop} (stk : X.stack = X.env :: X.outer) (fr : X.env.frame = some X.env.locals) (hex : X.ex = [])
    (hx : X.xe = fun e s' => wpAny (model X.prog X.w) X.A (leaving X.env e) (fun _ s'' => L2.CX X.prog X.w X.outer X.H_0 X.s_0 E e s'') E₁ s') (nd : X.N.Nodup) (hi : X.N[i]? = some n) (hl : X.env.kindOf n = some .local) (hc : Names X x c)
    (hb : ∀ (U : WX) (pn : List (Addr × Obj)) (xe : Value → Shared → Prop), L2N.Takes (X.tr pn xe) U → PassesOwn (model X.prog X.w) X.A X.env xe → PSs (X.tr pn xe) body (tb U))
    (hr : ∀ (a : Addr) (oe : Obj) (cls : Value) (d : Option Addr) (pn : List (Addr × Obj)) (xe : Value → Shared → Prop), L2N.Zn cls d oe → (∃ vs, oe.data = .fields vs) → L2.Takes (sx X a ((a, oe) :: pn) xe) (fun cls d _ H => E cls d H) → PSs (sx X a ((a, oe) :: pn) xe) (b₀ :: rows) (ts a cls d)) :
    PS X (.Try body [.ExceptHandler (some (.Name x p)) (some n) (b₀ :: rows) q] [] [] pos) (fun D σ H => tb (yes X.K c i ts D) D σ H) := by
  constructor
  intro pins s σ H D I go
  have ok := I.ok
  have hfr : X.A.frames = some (X.env :: X.outer) := by rw [ok.frames, stk]
  refine wpAny_Try_except ?_
  have run := (hb (yes X.K c i ts D) (X.pn ++ pins) (fun e t1 => wpAny (model X.prog X.w) X.A (noteFrame e X.env) (fun _ t2 => wpAny (model X.prog X.w) X.A (setFlight e none) (fun _ t3 =>
    wpAny (model X.prog X.w) X.A (handleBy e X.env [.ExceptHandler (some (.Name x p)) (some n) (b₀ :: rows) q]) (SP X pins D) X.xe t3) X.xe t2) X.xe t1) ?_ PassesOwn.looking).run [] s σ H D (I.toTry _) go
  · refine wpAny_mono run (fun f s1 e1 => ?_) fun _ _ z => z
    have e2 := Ta.calm_end ok e1
    cases f with
    | next => exact wpAny_execs_nil e2
    | ret u => exact e2
    | brk => exact e2
    | cont => exact e2
  intro u s' xx
  obtain ⟨a, B, sI, pins2, σ', H', cls, d, rfl, J', nb, up, sky, na, os, ag, one1, yes1⟩ := xx
  have sky2 : Sky B (X.env :: X.outer) a (L2N.Zn cls d) X.env.locals s'.heap := by
    rw [← stk]
    exact sky
  show wpAny (model X.prog X.w) X.A (noteFrame (.ref a) X.env) _ _ _
  refine L2N.Sky.land L2N.Zn.steady hfr fr sky2 fun h3 fl up3 => ?_
  have J : Inv X pins σ' H' sI := J'.ofTry ok
  have free : ∀ {g : Heap} {o : Obj} {vs : Array Value}, HandSPX.FlyingZ B (X.env :: X.outer) a (L2N.Zn cls d) g → g.get? a = some o → o.data = .fields vs → a ≠ X.env.locals ∧ a ∉ X.fs := by
    intro g o vs fg eo ed
    have out : a ∉ frs (X.env :: X.outer) := by
      intro m
      obtain ⟨_, o2, e2, no⟩ := fg.2.2.1.mem m
      cases eo.symm.trans e2
      exact no _ ed
    constructor
    · intro z
      exact out (List.mem_filterMap.mpr ⟨X.env, by simp, by rw [fr, z]⟩)
    · intro m
      obtain ⟨e, me, y⟩ := List.mem_filterMap.mp m
      exact out (List.mem_filterMap.mpr ⟨e, by simp [me], y⟩)
  obtain ⟨oe, vs, eo, ez, ed⟩ := fl.there
  obtain ⟨n1, n2⟩ := free fl eo ed
  have J3 := J.landed nb fl.1 (s' := { s' with heap := h3 }) (up.trans up3) os ag
  have S3 := J3.suite eo ed na n1 n2
  have kind : PySem.W.Looks (model X.prog X.w) h3 (typeOf (.ref a)) cls := by
    intro A Q E z k y
    refine wpAny_typeOf_ref (k _ _ eo) ?_
    rw [ez.1]
    exact y
  have one := PySem.W.exm_one (M := model X.prog X.w) J3.kIn kind one1
  refine wpAny_handleBy_cons (codeAny_handlers_test ?_) (by intro z; cases z)
  have name : ∀ {Q E : Value → Shared → Prop}, Q c { s' with heap := h3 } → wpAny (model X.prog X.w) (X.A.mark (some (.ref a))) (eval (.Name x p) X.env) Q E { s' with heap := h3 } := by
    intro Q E qq
    rcases hc with ⟨g1, g2, g3 | ⟨g3, g4, g5⟩⟩
    · exact ld_glob (X := X.suite a ((a, oe) :: (X.pn ++ pins))) S3 g1 g3 qq g2
    · exact ld_blt (X := X.suite a ((a, oe) :: (X.pn ++ pins))) S3 g1 g3 g4 qq g5 g2
  refine name (one.here ?_)
  refine codeAny_handlers_suite_as ?_
  refine HandSPX.lands_againZ fl fun g fg ug => ?_
  obtain ⟨oe2, vs2, eo2, ez2, ed2⟩ := fg.there
  obtain ⟨m1, m2⟩ := free fg eo2 ed2
  have J4 := J.landed nb fg.1 (s' := { s' with heap := g }) ((up.trans up3).trans ug) os ag
  refine store_ok (X := X.suite a ((a, oe2) :: (X.pn ++ pins))) (v := .ref a) (J4.suite eo2 ed2 na m1 m2) nd hi (.inl hl) rfl (fun s5 S5 => ?_) (.inr hl)
  have body := (hr a oe2 cls d (X.pn ++ pins) (fun u s6 => L2.XE (X.suite a ((a, oe2) :: (X.pn ++ pins))) (fun cls d _ H => E cls d H) u s6) ez2 ⟨_, ed2⟩ (fun u s6 z => by
    obtain ⟨a6, B6, sI6, pn6, σ6, H6, cls6, d6, e6, I6, r6⟩ := z
    exact ⟨a6, B6, sI6, pn6, σ6, H6, cls6, d6, e6, of_sx I6, r6⟩)).run [] s5 _ H' _ (to_sx S5) (yes1 a na)
  refine wpAny_mono body (fun f s6 end6 => ?_) (fun e6 s6 z => ?_)
  · cases f with
    | ret u =>
      obtain ⟨v6, σ6, H6, S6, r6, q6⟩ := end6
      exact gone_ok ((of_sx S6).unsuite ok) nd hi hl fun s7 J7 => ⟨_, _, _, J7, r6, q6⟩
    | next =>
      obtain ⟨σ6, H6, S6, q6⟩ := end6
      exact gone_ok ((of_sx S6).unsuite ok) nd hi hl fun s7 J7 => ⟨_, _, J7, q6⟩
    | brk =>
      obtain ⟨σ6, H6, S6, q6⟩ := end6
      exact gone_ok ((of_sx S6).unsuite ok) nd hi hl fun s7 J7 => ⟨_, _, J7, q6⟩
    | cont =>
      obtain ⟨σ6, H6, S6, q6⟩ := end6
      exact gone_ok ((of_sx S6).unsuite ok) nd hi hl fun s7 J7 => ⟨_, _, J7, q6⟩
  · obtain ⟨a2, B2, sI2, pn2, σ2, H2, cls2, d2, rfl, I2, nb2, up2, sky6, na2, os2, ag2, w⟩ := z
    have J2 : Inv X pins σ2 H2 sI2 := I2.unsuite ok
    have sky7 : Sky B2 (X.env :: X.outer) a2 (Zc cls2 d2) X.env.locals s6.heap := by
      rw [← stk]
      exact sky6
    have rest : ∀ h7, HandSPX.HeldZ B2 (X.env :: X.outer) a2 (Zc cls2 d2) X.env.locals h7 → s6.heap.UpToSlots h7 →
        wpAny (model X.prog X.w) (X.A.mark (some (.ref a))) (do bindName X.env n .none; unbindBehindTheSuite X.env n q) (fun _ s₄ => wpAny (model X.prog X.w) (X.A.mark (some (.ref a))) (passOn "try.except-as" (.ref a2) X.env : Sem Flow) (fun _ _ => False)
          (notedBy (model X.prog X.w) (X.A.mark (some (.ref a))) X.env (cameBackBy (model X.prog X.w) X.A X.env X.xe)) s₄)
          (fun y s₄ => wpAny (model X.prog X.w) (X.A.mark (some (.ref a))) (setFlight (.ref a2) none) (fun _ s₅ => (notedBy (model X.prog X.w) (X.A.mark (some (.ref a))) X.env (cameBackBy (model X.prog X.w) X.A X.env X.xe)) y s₅) (notedBy (model X.prog X.w) (X.A.mark (some (.ref a))) X.env (cameBackBy (model X.prog X.w) X.A X.env X.xe)) s₄) { s6 with heap := h7 } := by
      intro h7 held up7
      have J7 : Inv X pins σ2 H2 { s6 with heap := h7 } := J2.landed nb2 held.1 (up2.trans up7) os2 ag2
      obtain ⟨m, hn, _⟩ := id J7.loc
      have plain : (X.env.scope.kind == .class || (X.env.scope.kind == .module && X.env.locals != X.env.globals)) = false := by
        rw [ok.kind]
        rfl
      refine wpAny_nameGoes_keeps hl hn plain fun h8 v hn8 sb => ?_
      have held8 := held_but fr held (fun b hb z => by
        obtain ⟨_, o2, e2, _⟩ := J2.ok.funs.mem hb
        have l1 := Heap.lt_size e2
        have l2 := J2.ok.above
        rw [z] at l1
        exact absurd (Nat.lt_of_lt_of_le l1 l2) (Nat.lt_irrefl _)) sb.2 hn8
      obtain ⟨oe8, vs8, T8, oT8, ts8, q1, q2, q3, q4, q5⟩ := held8.2.2.2
      unfold PySem.passOn
      refine wpAny_bind (wpAny_field q1 q3 q4 ?_)
      rw [if_neg (by simp)]
      have out : wpAny (model X.prog X.w) (X.A.mark (some (.ref a))) (setFlight (.ref a2) X.env.frame) (fun _ t => wpAny (model X.prog X.w) (X.A.mark (some (.ref a))) (throw (.ref a2) : Sem Flow) (fun _ _ => False)
          (notedBy (model X.prog X.w) (X.A.mark (some (.ref a))) X.env (cameBackBy (model X.prog X.w) X.A X.env X.xe)) t) (notedBy (model X.prog X.w) (X.A.mark (some (.ref a))) X.env (cameBackBy (model X.prog X.w) X.A X.env X.xe)) { s6 with heap := h8, toks := s6.toks + 1 } := by
        rw [fr]
        refine HandSPX.setFlight_onZ held8 fun h9 held9 up9 => wpAny_throw ?_
        refine L2H.passesAt_of hx (some (.ref a)) _ _ ?_
        rw [hx]
        refine held_leave fr hex J2 nb2 (fun b o nL e rec => ?_) held9 na2 os2 ag2 w
        obtain ⟨l1, z1⟩ := (up2.trans up7) b o e rec
        obtain ⟨l2, z2⟩ := up9 b _ ((sb.2 b nL).trans z1) rec
        exact ⟨l2, z2⟩
      first
        | exact wpAny_bind out
        | exact wpAny_bind (wpAny_pure (wpAny_bind out))
    rcases sky7 with ⟨hB, hn, hF, oe7, vs7, he, hz, hd, h1⟩ | f7 | h7
    · exact HandSPX.look_newZ Zc.steady hfr hF fr he hB hn hd h1 hz rest
    · exact HandSPX.looks_onZ Zc.steady hfr fr f7 rest
    · exact HandSPX.againZ fr h7.2.2.2 (rest _ h7 (Heap.UpToSlots.refl _))
end
end Rf

/-! An own error with one field, BadCard, as the guide's skeleton on own errors gives it. -/
namespace PySem
namespace LowC
open PySem.W PySem.Calls PyProof.Rows PySem.HandSPX
/-! ### the text of __init__ -/
def iA (p1 p2 : Pos) : Arguments := { posonlyargs := [], args := [{ arg := "self", annotation := none, pos := p1 }, { arg := "what", annotation := none, pos := p2 }], vararg := none, kwonlyargs := [], kw_defaults := [], kwarg := none, defaults := [] }
def iB (q1 q2 q3 q4 : Pos) : List Stmt := [.Assign [.Attribute (.Name "self" q1) "what" q2] (.Name "what" q3) q4]
def iS : Scope := { kind := .function, names := [(PySem.Str.ofString "self", .local), (PySem.Str.ofString "what", .local)], isGenerator := false, isCoroutine := false, more := [] }
/-- what the written part says of Low, at C, and of its __init__, at fI -/
structure LowTxt (K : Frag) (mg : Str → Option Value) (C fI : Addr) : Prop where
  gC : mg "BadCard" = some (.ref C)
  cls : ∃ nm q N bs bm sn sub ab col dd k0 k1 k2 k3 k5, K.lookup C = some (excClassObj nm q C N bs bm true sn sub ab col dd k0 k1 k2 k3 k5 "ValueError.__new__") ∧ refsVE bm = true
  sa : findIn K (.ref C) "__setattr__" = some (some (.builtin "object.__setattr__"))
  ga : findIn K (.ref C) "__getattribute__" = some (some (.builtin "BaseException.__getattribute__"))
  gg : findIn K (.ref C) "__getattr__" = some none
  noN : findIn K (.ref C) "what" = some none
  iC : findIn K (.ref C) "__init__" = some (some (.ref fI))
  tC : typeIn K (.ref fI) = some (.type "function")
  kC : keepIn K (.ref C) = true
  exC : subIn K (.ref C) (.type "BaseException") = some true
  tyC : typeIn K (.ref C) = some (.type "type")
  hdC : hasDictIn K C = true
  te : exmOne K (.ref C) (.ref C) = some true
  fn : ∃ (oc : Value) (od : Option Addr) (doc pm : Value) (an : Option Addr) (cdv ct : Value) (osl : Array (Option Value)) (p1 p2 q1 q2 q3 q4 : Pos),
    K.lookup fI = some ⟨oc, od, .func (fnOf "__init__" "BadCard.__init__" (iA p1 p2) (iB q1 q2 q3 q4) iS .none .none doc pm an cdv ct), osl⟩ ∧ codeIn K cdv "BadCard.__init__" = true
theorem one_size (v : Value) : [v].length ≤ sizeLine := by
  rw [sizeLine_eq]
  exact (by decide : 1 ≤ 16777216)
theorem kept_but {K : Frag} {h h' : Heap} {x : Addr} (X : K.In h) (hx : K.lookup x = none) (k : ∀ b o, b ≠ x → h.get? b = some o → h'.get? b = some o) : K.In h' := fun a o e =>
  k a o (fun z => by rw [z, hx] at e; cases e) (X a o e)
theorem ldC {M : Model} {s : Shared} {name : Str} {scope : Scope} {L a : Addr} {cd : Value} {m : Str → Option Value} {x : Str} {pos : Pos} {v : Value} {Q : Value → Shared → Prop} {A : Around} {E : Value → Shared → Prop} (hn : s.heap.Ns L m) (hv : m x = some v) (h : Q v s)
    (hk : scope.kind = .function := by rfl) (hl : (envOfC name scope L a cd).kindOf x = some .local := by rfl) (hd : (x == ("__debug__" : Str)) = false := by decide) :
    wpAny M A (eval (.Name x pos) (envOfC name scope L a cd)) Q E s := wpAny_Name (wpAny_loadName_local hk hl hn hv h) hd
/-- what __init__ leaves of a fresh exception at x -/
structure InitEnd (h h' : Heap) (x C dx t1 : Addr) (v : Value) : Prop where
  keep : ∀ b o, b ≠ x → h.get? b = some o → h'.get? b = some o
  obj : h'.get? x = some { cls := .ref C, dict := some dx, data := .fields #[.ref t1, .none, .none, .none, .bool false, .none] }
  dbig : h.objs.size ≤ dx
  dne : dx ≠ x
  ns : h'.Ns1 dx (fun y => if y = "what" then some v else none)
/-- a made Low -/
structure OwnMade (h h' : Heap) (e C d : Addr) (v : Value) : Prop where
  keep : ∀ b o, h.get? b = some o → h'.get? b = some o
  new : h.objs.size ≤ e
  obj : ∃ oe vs, h'.get? e = some oe ∧ oe.cls = .ref C ∧ oe.dict = some d ∧ oe.data = .fields vs ∧ vs[1]? = some .none ∧ 4 < vs.size ∧ vs[2]? = some .none
  dbig : h.objs.size ≤ d
  dne : d ≠ e
  ns : h'.Ns1 d (fun y => if y = "what" then some v else none)
section
variable {prog : Program} {w : World} {A : Around} {E : Value → Shared → Prop} {R : Result → Shared → Prop} {s : Shared} {K : Frag} {mg : Str → Option Value} {C fI : Addr}
theorem low_init (T : LowTxt K mg C fI) {x t0 : Addr} {v : Value} (X : K.In s.heap) (hlim : s.heap.NoLimit) (hx : s.heap.get? x = some (excO C t0)) (hnx : K.lookup x = none) (hroom : A.depth < recursionLimit)
    (hq : ∀ h' tk dx, InitEnd s.heap h' x C dx t0 v → R (.ok (.ret .none)) { s with heap := h', toks := tk }) :
    codeAny (model prog w) A (.call (.ref fI) ⟨[.ref x, v], []⟩) R s := by
  obtain ⟨oc, od, doc, pm, an, cdv, ct, osl, p1, p2, q1, q2, q3, q4, ho, hcd⟩ := T.fn
  obtain ⟨nm, q, N, bs, bm, sn, sub, ab, col, dd, k0, k1, k2, k3, k5, hC, hbm⟩ := T.cls
  have hcl : clsIn K C = some { name := nm, bases := bs, mro := .ref C :: bm, ns := N, qualname := q, hasDict := true, slotNames := sn, subclasses := sub, abstract := ab, collection := col, hasDel := false } := by unfold clsIn; rw [hC] <;> rfl
  refine Att.call_fn (binds := [("self", .ref x), ("what", v)]) X hlim ho hcd hroom (BindsTo.of_eq (by first | rfl | with_unfolding_all rfl)) (by first | rfl | decide | with_unfolding_all rfl) (fun s₁ IC => ?_) rfl rfl rfl
  obtain ⟨h₁, tk₁, rfl⟩ := IC.toInCall.same
  have k : ∀ b o, s.heap.get? b = some o → h₁.get? b = some o := IC.toInCall.keep
  have hn := IC.toInCall.ns
  have hxL : s.heap.objs.size ≠ x := Nat.ne_of_gt (Heap.lt_size hx)
  have X₁ : K.In h₁ := X.keeps k
  have hx₁ := k _ _ hx
  -- self.by = by
  show wpAny _ _ (execs _ _) _ _ _
  refine wpAny_execs_cons (plainObj_wpAny_Assign_Attribute ?_)
  refine ldC (v := v) hn (by first | rfl | with_unfolding_all rfl | kernel_rfl) (ldC (v := .ref x) hn (by first | rfl | with_unfolding_all rfl | kernel_rfl) ?_)
  refine set_plain X₁ (ox := excO C t0) (od := none) ⟨hx₁, rfl, rfl, trivial⟩ T.sa ?_
  refine exc_osa X₁ hx₁ hcl (show refsVE (.ref C :: bm) = true from hbm) rfl T.noN (fun h₃ tk₃ dx k₃ dn dne hx₃ hn₃ => ?_)
  show wpAny _ _ (execs _ _) _ _ _
  have z : s.heap.objs.size < h₁.objs.size := hn.lt
  exact wpAny_execs_nil (hq h₃ tk₃ dx ⟨fun b o hb e => k₃ b o hb (k b o e), hx₃, Nat.le_of_lt (Nat.lt_of_lt_of_le z dn), dne, hn₃⟩)
theorem low_made (T : LowTxt K mg C fI) {v : Value} (X : K.In s.heap) (hlim : s.heap.NoLimit) (hroom : A.depth + 1 < recursionLimit)
    (hq : ∀ h' tk e d, OwnMade s.heap h' e C d v → R (.ok (.ret (.ref e))) { s with heap := h', toks := tk }) :
    codeAny (model prog w) A (.call (.ref C) ⟨[v], []⟩) R s := by
  obtain ⟨nm, q, N, bs, bm, sn, sub, ab, col, dd, k0, k1, k2, k3, k5, hC, hbm⟩ := T.cls
  obtain ⟨hp, g, dr, tk, os⟩ := s
  have k : ∀ b o, hp.get? b = some o → ((hp.push (kdv_tup [v])).push (excO C hp.objs.size)).get? b = some o := fun b o e => Heap.get?_push_of_some _ (Heap.get?_push_of_some _ e)
  have hget : ((hp.push (kdv_tup [v])).push (excO C hp.objs.size)).get? (hp.objs.size + 1) = some (excO C hp.objs.size) := by heap_get
  have hnx : K.lookup (hp.objs.size + 1) = none := by
    cases e : K.lookup (hp.objs.size + 1) with
    | none => rfl
    | some o =>
      have z : hp.get? (hp.objs.size + 1) = some o := X _ _ e
      exact absurd (Nat.lt_of_succ_lt (Heap.lt_size z)) (Nat.lt_irrefl _)
  refine call_own F.excBase_ValueError (fun X => refsVE_contains X bm hbm) (X _ _ hC) (looks_findIn X T.iC) (fun self => bind_fn X self T.tC) (one_size v) ?_
  refine low_init (s := ⟨(hp.push (kdv_tup [v])).push (excO C hp.objs.size), g, dr, tk, os⟩) T (X.keeps k) (hlim.keeps k) hget hnx ?_ fun h' tk' dx ⟨k', hx, dn, dne, hns⟩ => ?_
  · show A.depth + 1 < recursionLimit
    exact hroom
  · have old : ∀ b o, hp.get? b = some o → h'.get? b = some o := fun b o e => k' b o (Nat.ne_of_lt (Nat.lt_succ_of_lt (Heap.lt_size e))) (k b o e)
    have z : hp.objs.size + 1 + 1 ≤ dx := by
      first
        | (simpa only [Heap.size_push] using dn)
        | exact dn
        | (have q := dn; rw [Heap.size_push, Heap.size_push] at q; exact q)
    exact ⟨rfl, hq h' tk' (hp.objs.size + 1) dx ⟨old, Nat.le_succ _, ⟨_, _, hx, rfl, rfl, rfl, rfl, (by show 4 < 6; decide), rfl⟩, Nat.le_trans (Nat.le_trans (Nat.le_succ _) (Nat.le_succ _)) z, dne, hns⟩⟩
end
end LowC
end PySem
namespace L2
open PySem PySem.Spec PyProof.Rows
theorem relO_lowC {v : V} {v' : Value} (r : RelV v v') (f : Str) : RelO (List.lookup f [(("what" : Str), v)]) (if f = "what" then some v' else none) := by
  by_cases hw : f = "what"
  · subst hw
    rw [if_pos rfl]
    have q : List.lookup ("what" : Str) [(("what" : Str), v)] = some v := by simp [List.lookup]
    rw [q]
    exact r
  · rw [if_neg hw]
    have qw : (f == ("what" : Str)) = false := by simpa using hw
    have q2 : List.lookup f [(("what" : Str), v)] = none := by simp [List.lookup, qw]
    rw [q2]
    trivial
section
variable {X : Cx} {C fI : Addr}
/-- Low(e) -/
def tMkLowC (C : Addr) (ta : TA) : St → Hp → XK → Prop := fun σ H Q => ta σ H fun vs H1 => ∃ v, vs = [v] ∧ ∀ d, H1 d = none → Q (.ref C) (some d) (upd H1 d (.xd [(("what" : Str), v)]))
theorem pmkS_lowC {a : Expr} {ta : TA} {p pos : Pos} {k : Nat} (T : PySem.LowC.LowTxt X.K X.mg C fI) (hr : Room k X.A) (ha : PA X [a] ta) (hg : Gl X "BadCard" := by rfl)
    (he : starEach (a :: []) X.env = (false, eval a X.env) :: starEach [] X.env := by rfl) (hpl : (backTo pos (starEach [] X.env)).any (·.1) = false := by rfl) :
    L2H.PMk5 X (.Call (.Name "BadCard" p) [a] [] pos) (tMkLowC C ta) := by
  intro pins s σ H Q I h
  refine wpAny_Call_Name_kw (ld_glob I hg T.gC ?_)
  refine PySem.W.callWith_K (h₀ := X.base) I.ok.mod.kin T.kC (thn (ha.run pos pins s σ H _ I h) fun us s1 hh => ?_) he hpl
  obtain ⟨vs, H1, I1, r1, v, ev, q1⟩ := hh
  subst ev
  refine ⟨I1.kIn, ?_⟩
  cases r1 with
  | cons rv rn =>
    rename_i v' us'
    cases rn
    show wpAny _ _ (call (.ref C) [v']) _ _ _
    have hlim := I1.nolimit
    obtain ⟨hp, g, dr, tk, os⟩ := s1
    refine wpAny_call (PySem.LowC.low_made T I1.kIn hlim (by have := hr.dp; omega) fun h' tk' e d M => ?_)
    obtain ⟨oe, fv, hoe, hc, hd, hdat, h1, hz4, h2⟩ := M.obj
    have hns := M.ns
    obtain ⟨G', g1, g2⟩ := restrict h' fun b => decide (b ≠ e)
    have gk : ∀ b, b ≠ e → G'.get? b = h'.get? b := fun b hb => g1 b (decide_eq_true hb)
    have ge : G'.get? e = none := g2 e (by simp)
    have old : ∀ b o, hp.get? b = some o → G'.get? b = some o := fun b o q => (gk b (Nat.ne_of_lt (Nat.lt_of_lt_of_le (Heap.lt_size q) M.new))).trans (M.keep b o q)
    have ob : ObjOk X.prog X.w (upd H1 d (.xd [(("what" : Str), v)])) G' d (.xd [(("what" : Str), v)]) :=
      ⟨_, hns.at (fun o q => (gk d M.dne).trans q), fun f => relO_lowC rv f⟩
    have J : Inv X pins σ (upd H1 d (.xd [(("what" : Str), v)])) ⟨G', g, dr, tk', os⟩ := I1.laid (t' := tk') old M.dbig ob
    show L2N.MkP X pins σ Q (.ref e) ⟨h', g, dr, tk', os⟩ ∧ L2H.Six (.ref e) ⟨h', g, dr, tk', os⟩
    refine ⟨⟨e, oe, fv, ⟨G', g, dr, tk', os⟩, _, .ref C, some d, rfl, J, fun b o q => ?_, ge, hoe, ⟨hc, hd, fun vs q => by rw [hdat] at q; cases q; exact h2⟩, hdat, h1, ?_, rfl, I1.bare, raises_own T.exC T.tyC, q1 d (I1.hok.fresh M.dbig)⟩, fun a2 o2 vs2 ea hg2 hd2 => ?_⟩
    · by_cases hb : b = e
      · have q' : G'.get? b = some o := q
        rw [hb, ge] at q'; cases q'
      · exact (gk b hb).symm.trans q
    · rw [upd_ne (Ne.symm M.dne)]
      exact I1.hok.fresh M.new
    · cases ea
      have hg2 : h'.get? e = some o2 := hg2
      rw [hoe] at hg2
      cases hg2
      rw [hdat] at hd2
      cases hd2
      exact hz4
theorem pmk_lowC {a : Expr} {ta : TA} {p pos : Pos} {k : Nat} (T : PySem.LowC.LowTxt X.K X.mg C fI) (hr : Room k X.A) (ha : PA X [a] ta) (hg : Gl X "BadCard" := by rfl)
    (he : starEach (a :: []) X.env = (false, eval a X.env) :: starEach [] X.env := by rfl) (hpl : (backTo pos (starEach [] X.env)).any (·.1) = false := by rfl) :
    L2N.PMk X (.Call (.Name "BadCard" p) [a] [] pos) (tMkLowC C ta) := (pmkS_lowC T hr ha hg he hpl).pmk
/-- raise Low(e) -/
def tRaiseLowC (C : Addr) (W : WX) (ta : TA) : TS := fun _ σ H => tMkLowC C ta σ H fun cls d H' => W cls d σ H'
theorem ps_raiseLowC {a : Expr} {ta : TA} {W : WX} {p pos pos2 : Pos} {k : Nat} (hc : X.calm = true) (T : PySem.LowC.LowTxt X.K X.mg C fI) (hr : Room k X.A) (tk : L2N.Takes X W) (ha : PA X [a] ta) (hg : Gl X "BadCard" := by rfl)
    (he : starEach (a :: []) X.env = (false, eval a X.env) :: starEach [] X.env := by rfl) (hpl : (backTo pos (starEach [] X.env)).any (·.1) = false := by rfl) :
    PS X (.Raise (some (.Call (.Name "BadCard" p) [a] [] pos)) none pos2) (tRaiseLowC C W ta) := L2N.ps_raise hc tk (pmk_lowC T hr ha hg he hpl)
/-- low.by, low the exception that the suite holds (at a; its class cls, its dict d) -/
def tByLowC (C : Addr) (a : Addr) (cls : Value) (d : Option Addr) (te : TE) : TE := fun σ H Q => te σ H fun x H1 => x = .ref a ∧ cls = .ref C ∧ ∃ (dd : Addr) (v : V), d = some dd ∧ H1 dd = some (.xd [(("what" : Str), v)]) ∧ Q v H1
theorem pe_byLowC {a : Addr} {oe : Obj} {cls : Value} {d : Option Addr} {pn : List (Addr × Obj)} {e : Expr} {te : TE} {pos : Pos} (T : PySem.LowC.LowTxt X.K X.mg C fI) (hz : Zc cls d oe) (hf : ∃ vs, oe.data = .fields vs) (he : PE (X.suite a ((a, oe) :: pn)) e te)
    (hb : attributeBase e "what" X.env (eval e X.env) = eval e X.env := by rfl) :
    PE (X.suite a ((a, oe) :: pn)) (.Attribute e "what" pos) (tByLowC C a cls d te) := by
  refine ⟨fun pins s σ H Q I h => ?_⟩
  refine attr_of hb (thn (he.run pins s σ H _ I h) fun u s1 hh => ?_)
  obtain ⟨x, H1, I1, rx, ex, ec, dd, v, ed, ea, q⟩ := hh
  subst ex
  obtain rfl : u = Value.ref a := rx
  subst ec
  subst ed
  obtain ⟨ha, _⟩ := I1.pin (a, oe) (List.mem_append_left _ List.mem_cons_self)
  obtain ⟨vs, hd⟩ := hf
  have hx : ObjOk X.prog X.w H1 s1.heap dd (.xd [(("what" : Str), v)]) := I1.hok dd _ ea
  obtain ⟨mA, hns, hr⟩ := hx
  obtain ⟨od, ho, hl⟩ := lookIn_ns hns
  have l : List.lookup ("what" : Str) [(("what" : Str), v)] = some v := by simp [List.lookup]
  obtain ⟨u, hu, ru⟩ := RelO.some_of (v := v) (o := mA "what") (by rw [← l]; exact hr "what")
  have J : PySem.W.InstAt s1.heap a oe C (some od) := ⟨ha, hz.1, by unfold PySem.W.notCls; rw [hd] <;> rfl, by rw [hz.2]; exact ho⟩
  exact HandSPX.exc_get I1.kIn J T.ga T.gg T.exC (PySem.W.findObj_own T.hdC T.noN rfl (by rw [hl, hu])) (handed_of ru) ⟨v, H1, I1.tok _, ru, q⟩
end
end L2


/-! An own error with one field, BadCardText, as the guide's skeleton on own errors gives it. -/
namespace PySem
namespace LowT
open PySem.W PySem.Calls PyProof.Rows PySem.HandSPX
/-! ### the text of __init__ -/
def iA (p1 p2 : Pos) : Arguments := { posonlyargs := [], args := [{ arg := "self", annotation := none, pos := p1 }, { arg := "text", annotation := none, pos := p2 }], vararg := none, kwonlyargs := [], kw_defaults := [], kwarg := none, defaults := [] }
def iB (q1 q2 q3 q4 : Pos) : List Stmt := [.Assign [.Attribute (.Name "self" q1) "text" q2] (.Name "text" q3) q4]
def iS : Scope := { kind := .function, names := [(PySem.Str.ofString "self", .local), (PySem.Str.ofString "text", .local)], isGenerator := false, isCoroutine := false, more := [] }
/-- what the written part says of Low, at C, and of its __init__, at fI -/
structure LowTxt (K : Frag) (mg : Str → Option Value) (C fI : Addr) : Prop where
  gC : mg "BadCardText" = some (.ref C)
  cls : ∃ nm q N bs bm sn sub ab col dd k0 k1 k2 k3 k5, K.lookup C = some (excClassObj nm q C N bs bm true sn sub ab col dd k0 k1 k2 k3 k5 "ValueError.__new__") ∧ refsVE bm = true
  sa : findIn K (.ref C) "__setattr__" = some (some (.builtin "object.__setattr__"))
  ga : findIn K (.ref C) "__getattribute__" = some (some (.builtin "BaseException.__getattribute__"))
  gg : findIn K (.ref C) "__getattr__" = some none
  noN : findIn K (.ref C) "text" = some none
  iC : findIn K (.ref C) "__init__" = some (some (.ref fI))
  tC : typeIn K (.ref fI) = some (.type "function")
  kC : keepIn K (.ref C) = true
  exC : subIn K (.ref C) (.type "BaseException") = some true
  tyC : typeIn K (.ref C) = some (.type "type")
  hdC : hasDictIn K C = true
  te : exmOne K (.ref C) (.ref C) = some true
  fn : ∃ (oc : Value) (od : Option Addr) (doc pm : Value) (an : Option Addr) (cdv ct : Value) (osl : Array (Option Value)) (p1 p2 q1 q2 q3 q4 : Pos),
    K.lookup fI = some ⟨oc, od, .func (fnOf "__init__" "BadCardText.__init__" (iA p1 p2) (iB q1 q2 q3 q4) iS .none .none doc pm an cdv ct), osl⟩ ∧ codeIn K cdv "BadCardText.__init__" = true
theorem one_size (v : Value) : [v].length ≤ sizeLine := by
  rw [sizeLine_eq]
  exact (by decide : 1 ≤ 16777216)
theorem kept_but {K : Frag} {h h' : Heap} {x : Addr} (X : K.In h) (hx : K.lookup x = none) (k : ∀ b o, b ≠ x → h.get? b = some o → h'.get? b = some o) : K.In h' := fun a o e =>
  k a o (fun z => by rw [z, hx] at e; cases e) (X a o e)
theorem ldC {M : Model} {s : Shared} {name : Str} {scope : Scope} {L a : Addr} {cd : Value} {m : Str → Option Value} {x : Str} {pos : Pos} {v : Value} {Q : Value → Shared → Prop} {A : Around} {E : Value → Shared → Prop} (hn : s.heap.Ns L m) (hv : m x = some v) (h : Q v s)
    (hk : scope.kind = .function := by rfl) (hl : (envOfC name scope L a cd).kindOf x = some .local := by rfl) (hd : (x == ("__debug__" : Str)) = false := by decide) :
    wpAny M A (eval (.Name x pos) (envOfC name scope L a cd)) Q E s := wpAny_Name (wpAny_loadName_local hk hl hn hv h) hd
/-- what __init__ leaves of a fresh exception at x -/
structure InitEnd (h h' : Heap) (x C dx t1 : Addr) (v : Value) : Prop where
  keep : ∀ b o, b ≠ x → h.get? b = some o → h'.get? b = some o
  obj : h'.get? x = some { cls := .ref C, dict := some dx, data := .fields #[.ref t1, .none, .none, .none, .bool false, .none] }
  dbig : h.objs.size ≤ dx
  dne : dx ≠ x
  ns : h'.Ns1 dx (fun y => if y = "text" then some v else none)
/-- a made Low -/
structure OwnMade (h h' : Heap) (e C d : Addr) (v : Value) : Prop where
  keep : ∀ b o, h.get? b = some o → h'.get? b = some o
  new : h.objs.size ≤ e
  obj : ∃ oe vs, h'.get? e = some oe ∧ oe.cls = .ref C ∧ oe.dict = some d ∧ oe.data = .fields vs ∧ vs[1]? = some .none ∧ 4 < vs.size
  dbig : h.objs.size ≤ d
  dne : d ≠ e
  ns : h'.Ns1 d (fun y => if y = "text" then some v else none)
section
variable {prog : Program} {w : World} {A : Around} {E : Value → Shared → Prop} {R : Result → Shared → Prop} {s : Shared} {K : Frag} {mg : Str → Option Value} {C fI : Addr}
theorem low_init (T : LowTxt K mg C fI) {x t0 : Addr} {v : Value} (X : K.In s.heap) (hlim : s.heap.NoLimit) (hx : s.heap.get? x = some (excO C t0)) (hnx : K.lookup x = none) (hroom : A.depth < recursionLimit)
    (hq : ∀ h' tk dx, InitEnd s.heap h' x C dx t0 v → R (.ok (.ret .none)) { s with heap := h', toks := tk }) :
    codeAny (model prog w) A (.call (.ref fI) ⟨[.ref x, v], []⟩) R s := by
  obtain ⟨oc, od, doc, pm, an, cdv, ct, osl, p1, p2, q1, q2, q3, q4, ho, hcd⟩ := T.fn
  obtain ⟨nm, q, N, bs, bm, sn, sub, ab, col, dd, k0, k1, k2, k3, k5, hC, hbm⟩ := T.cls
  have hcl : clsIn K C = some { name := nm, bases := bs, mro := .ref C :: bm, ns := N, qualname := q, hasDict := true, slotNames := sn, subclasses := sub, abstract := ab, collection := col, hasDel := false } := by unfold clsIn; rw [hC] <;> rfl
  refine Att.call_fn (binds := [("self", .ref x), ("text", v)]) X hlim ho hcd hroom (BindsTo.of_eq (by first | rfl | with_unfolding_all rfl)) (by first | rfl | decide | with_unfolding_all rfl) (fun s₁ IC => ?_) rfl rfl rfl
  obtain ⟨h₁, tk₁, rfl⟩ := IC.toInCall.same
  have k : ∀ b o, s.heap.get? b = some o → h₁.get? b = some o := IC.toInCall.keep
  have hn := IC.toInCall.ns
  have hxL : s.heap.objs.size ≠ x := Nat.ne_of_gt (Heap.lt_size hx)
  have X₁ : K.In h₁ := X.keeps k
  have hx₁ := k _ _ hx
  -- self.by = by
  show wpAny _ _ (execs _ _) _ _ _
  refine wpAny_execs_cons (plainObj_wpAny_Assign_Attribute ?_)
  refine ldC (v := v) hn (by first | rfl | with_unfolding_all rfl | kernel_rfl) (ldC (v := .ref x) hn (by first | rfl | with_unfolding_all rfl | kernel_rfl) ?_)
  refine set_plain X₁ (ox := excO C t0) (od := none) ⟨hx₁, rfl, rfl, trivial⟩ T.sa ?_
  refine exc_osa X₁ hx₁ hcl (show refsVE (.ref C :: bm) = true from hbm) rfl T.noN (fun h₃ tk₃ dx k₃ dn dne hx₃ hn₃ => ?_)
  show wpAny _ _ (execs _ _) _ _ _
  have z : s.heap.objs.size < h₁.objs.size := hn.lt
  exact wpAny_execs_nil (hq h₃ tk₃ dx ⟨fun b o hb e => k₃ b o hb (k b o e), hx₃, Nat.le_of_lt (Nat.lt_of_lt_of_le z dn), dne, hn₃⟩)
theorem low_made (T : LowTxt K mg C fI) {v : Value} (X : K.In s.heap) (hlim : s.heap.NoLimit) (hroom : A.depth + 1 < recursionLimit)
    (hq : ∀ h' tk e d, OwnMade s.heap h' e C d v → R (.ok (.ret (.ref e))) { s with heap := h', toks := tk }) :
    codeAny (model prog w) A (.call (.ref C) ⟨[v], []⟩) R s := by
  obtain ⟨nm, q, N, bs, bm, sn, sub, ab, col, dd, k0, k1, k2, k3, k5, hC, hbm⟩ := T.cls
  obtain ⟨hp, g, dr, tk, os⟩ := s
  have k : ∀ b o, hp.get? b = some o → ((hp.push (kdv_tup [v])).push (excO C hp.objs.size)).get? b = some o := fun b o e => Heap.get?_push_of_some _ (Heap.get?_push_of_some _ e)
  have hget : ((hp.push (kdv_tup [v])).push (excO C hp.objs.size)).get? (hp.objs.size + 1) = some (excO C hp.objs.size) := by heap_get
  have hnx : K.lookup (hp.objs.size + 1) = none := by
    cases e : K.lookup (hp.objs.size + 1) with
    | none => rfl
    | some o =>
      have z : hp.get? (hp.objs.size + 1) = some o := X _ _ e
      exact absurd (Nat.lt_of_succ_lt (Heap.lt_size z)) (Nat.lt_irrefl _)
  refine call_own F.excBase_ValueError (fun X => refsVE_contains X bm hbm) (X _ _ hC) (looks_findIn X T.iC) (fun self => bind_fn X self T.tC) (one_size v) ?_
  refine low_init (s := ⟨(hp.push (kdv_tup [v])).push (excO C hp.objs.size), g, dr, tk, os⟩) T (X.keeps k) (hlim.keeps k) hget hnx ?_ fun h' tk' dx ⟨k', hx, dn, dne, hns⟩ => ?_
  · show A.depth + 1 < recursionLimit
    exact hroom
  · have old : ∀ b o, hp.get? b = some o → h'.get? b = some o := fun b o e => k' b o (Nat.ne_of_lt (Nat.lt_succ_of_lt (Heap.lt_size e))) (k b o e)
    have z : hp.objs.size + 1 + 1 ≤ dx := by
      first
        | (simpa only [Heap.size_push] using dn)
        | exact dn
        | (have q := dn; rw [Heap.size_push, Heap.size_push] at q; exact q)
    exact ⟨rfl, hq h' tk' (hp.objs.size + 1) dx ⟨old, Nat.le_succ _, ⟨_, _, hx, rfl, rfl, rfl, rfl, by show 4 < 6; decide⟩, Nat.le_trans (Nat.le_trans (Nat.le_succ _) (Nat.le_succ _)) z, dne, hns⟩⟩
end
end LowT
end PySem
namespace L2
open PySem PySem.Spec PyProof.Rows
theorem relO_lowT {v : V} {v' : Value} (r : RelV v v') (f : Str) : RelO (List.lookup f [(("text" : Str), v)]) (if f = "text" then some v' else none) := by
  by_cases hw : f = "text"
  · subst hw
    rw [if_pos rfl]
    have q : List.lookup ("text" : Str) [(("text" : Str), v)] = some v := by simp [List.lookup]
    rw [q]
    exact r
  · rw [if_neg hw]
    have qw : (f == ("text" : Str)) = false := by simpa using hw
    have q2 : List.lookup f [(("text" : Str), v)] = none := by simp [List.lookup, qw]
    rw [q2]
    trivial
section
variable {X : Cx} {C fI : Addr}
/-- Low(e) -/
def tMkLowT (C : Addr) (ta : TA) : St → Hp → XK → Prop := fun σ H Q => ta σ H fun vs H1 => ∃ v, vs = [v] ∧ ∀ d, H1 d = none → Q (.ref C) (some d) (upd H1 d (.xd [(("text" : Str), v)]))
theorem pmkS_lowT {a : Expr} {ta : TA} {p pos : Pos} (T : PySem.LowT.LowTxt X.K X.mg C fI) (hr : X.A.depth + 1 < recursionLimit) (ha : PA X [a] ta) (hg : Gl X "BadCardText" := by rfl)
    (he : starEach (a :: []) X.env = (false, eval a X.env) :: starEach [] X.env := by rfl) (hpl : (backTo pos (starEach [] X.env)).any (·.1) = false := by rfl) :
    PMkS X (.Call (.Name "BadCardText" p) [a] [] pos) (tMkLowT C ta) := by
  intro pins s σ H Q I h
  refine wpAny_Call_Name_kw (ld_glob I hg T.gC ?_)
  refine PySem.W.callWith_K (h₀ := X.base) I.ok.mod.kin T.kC (thn (ha.run pos pins s σ H _ I h) fun us s1 hh => ?_) he hpl
  obtain ⟨vs, H1, I1, r1, v, ev, q1⟩ := hh
  subst ev
  refine ⟨I1.kIn, ?_⟩
  cases r1 with
  | cons rv rn =>
    rename_i v' us'
    cases rn
    show wpAny _ _ (call (.ref C) [v']) _ _ _
    have hlim := I1.nolimit
    obtain ⟨hp, g, dr, tk, os⟩ := s1
    refine wpAny_call (PySem.LowT.low_made T I1.kIn hlim hr fun h' tk' e d M => ?_)
    obtain ⟨oe, fv, hoe, hc, hd, hdat, h1, hz4⟩ := M.obj
    have hns := M.ns
    obtain ⟨G', g1, g2⟩ := restrict h' fun b => decide (b ≠ e)
    have gk : ∀ b, b ≠ e → G'.get? b = h'.get? b := fun b hb => g1 b (decide_eq_true hb)
    have ge : G'.get? e = none := g2 e (by simp)
    have old : ∀ b o, hp.get? b = some o → G'.get? b = some o := fun b o q => (gk b (Nat.ne_of_lt (Nat.lt_of_lt_of_le (Heap.lt_size q) M.new))).trans (M.keep b o q)
    have ob : ObjOk X.prog X.w (upd H1 d (.xd [(("text" : Str), v)])) G' d (.xd [(("text" : Str), v)]) :=
      ⟨_, hns.at (fun o q => (gk d M.dne).trans q), fun f => relO_lowT rv f⟩
    have J : Inv X pins σ (upd H1 d (.xd [(("text" : Str), v)])) ⟨G', g, dr, tk', os⟩ := I1.laid (t' := tk') old M.dbig ob
    show MkP X pins σ Q (.ref e) ⟨h', g, dr, tk', os⟩ ∧ L2H.Six (.ref e) ⟨h', g, dr, tk', os⟩
    refine ⟨⟨e, oe, fv, ⟨G', g, dr, tk', os⟩, _, .ref C, some d, rfl, J, fun b o q => ?_, ge, hoe, ⟨hc, hd⟩, hdat, h1, ?_, rfl, I1.bare, raises_own T.exC T.tyC, q1 d (I1.hok.fresh M.dbig)⟩, fun a2 o2 vs2 ea hg2 hd2 => ?_⟩
    · by_cases hb : b = e
      · have q' : G'.get? b = some o := q
        rw [hb, ge] at q'; cases q'
      · exact (gk b hb).symm.trans q
    · rw [upd_ne (Ne.symm M.dne)]
      exact I1.hok.fresh M.new
    · cases ea
      have hg2 : h'.get? e = some o2 := hg2
      rw [hoe] at hg2
      cases hg2
      rw [hdat] at hd2
      cases hd2
      exact hz4
theorem pmk_lowT {a : Expr} {ta : TA} {p pos : Pos} {k : Nat} (T : PySem.LowT.LowTxt X.K X.mg C fI) (hr : Room k X.A) (ha : PA X [a] ta) (hg : Gl X "BadCardText" := by rfl)
    (he : starEach (a :: []) X.env = (false, eval a X.env) :: starEach [] X.env := by rfl) (hpl : (backTo pos (starEach [] X.env)).any (·.1) = false := by rfl) :
    PMk X (.Call (.Name "BadCardText" p) [a] [] pos) (tMkLowT C ta) := (pmkS_lowT T (by have := hr.dp; omega) ha hg he hpl).pmk
/-- raise Low(e) -/
def tRaiseLowT (C : Addr) (W : WX) (ta : TA) : TS := fun _ σ H => tMkLowT C ta σ H fun cls d H' => W cls d σ H'
theorem ps_raiseLowT {a : Expr} {ta : TA} {W : WX} {p pos pos2 : Pos} {k : Nat} (hc : X.calm = true) (T : PySem.LowT.LowTxt X.K X.mg C fI) (hr : Room k X.A) (tk : Takes X W) (ha : PA X [a] ta) (hg : Gl X "BadCardText" := by rfl)
    (he : starEach (a :: []) X.env = (false, eval a X.env) :: starEach [] X.env := by rfl) (hpl : (backTo pos (starEach [] X.env)).any (·.1) = false := by rfl) :
    PS X (.Raise (some (.Call (.Name "BadCardText" p) [a] [] pos)) none pos2) (tRaiseLowT C W ta) := ps_raise hc tk (pmk_lowT T hr ha hg he hpl)
/-- low.by, low the exception that the suite holds (at a; its class cls, its dict d) -/
def tByLowT (C : Addr) (a : Addr) (cls : Value) (d : Option Addr) (te : TE) : TE := fun σ H Q => te σ H fun x H1 => x = .ref a ∧ cls = .ref C ∧ ∃ (dd : Addr) (v : V), d = some dd ∧ H1 dd = some (.xd [(("text" : Str), v)]) ∧ Q v H1
theorem pe_byLowT {a : Addr} {oe : Obj} {cls : Value} {d : Option Addr} {pn : List (Addr × Obj)} {e : Expr} {te : TE} {pos : Pos} (T : PySem.LowT.LowTxt X.K X.mg C fI) (hz : Zc cls d oe) (hf : ∃ vs, oe.data = .fields vs) (he : PE (X.suite a ((a, oe) :: pn)) e te)
    (hb : attributeBase e "text" X.env (eval e X.env) = eval e X.env := by rfl) :
    PE (X.suite a ((a, oe) :: pn)) (.Attribute e "text" pos) (tByLowT C a cls d te) := by
  refine ⟨fun pins s σ H Q I h => ?_⟩
  refine attr_of hb (thn (he.run pins s σ H _ I h) fun u s1 hh => ?_)
  obtain ⟨x, H1, I1, rx, ex, ec, dd, v, ed, ea, q⟩ := hh
  subst ex
  obtain rfl : u = Value.ref a := rx
  subst ec
  subst ed
  obtain ⟨ha, _⟩ := I1.pin (a, oe) (List.mem_append_left _ List.mem_cons_self)
  obtain ⟨vs, hd⟩ := hf
  have hx : ObjOk X.prog X.w H1 s1.heap dd (.xd [(("text" : Str), v)]) := I1.hok dd _ ea
  obtain ⟨mA, hns, hr⟩ := hx
  obtain ⟨od, ho, hl⟩ := lookIn_ns hns
  have l : List.lookup ("text" : Str) [(("text" : Str), v)] = some v := by simp [List.lookup]
  obtain ⟨u, hu, ru⟩ := RelO.some_of (v := v) (o := mA "text") (by rw [← l]; exact hr "text")
  have J : PySem.W.InstAt s1.heap a oe C (some od) := ⟨ha, hz.1, by unfold PySem.W.notCls; rw [hd] <;> rfl, by rw [hz.2]; exact ho⟩
  exact HandSPX.exc_get I1.kIn J T.ga T.gg T.exC (PySem.W.findObj_own T.hdC T.noN rfl (by rw [hl, hu])) (handed_of ru) ⟨v, H1, I1.tok _, ru, q⟩
end
end L2


/-! isinstance of a caught error with a dict of its own; == over data without dicts; text * int. -/
namespace Xe
open PySem PySem.Spec PyProof.Rows L2
/-- isinstance(e, c), e the error of the class at C that the suite holds, with its own dict -/
def rIsD (K : PySem.W.Frag) (C a : Addr) (cls : Value) (d : Option Addr) : List V → Hp → VK → Prop := fun xs H Q => ∃ (c : V) (cv : Value) (b : Bool) (dd : Addr) (fs : List (Str × V)), xs = [.ref a, c] ∧ cls = .ref C ∧ d = some dd ∧ H dd = some (.xd fs) ∧ (∀ u, RelV c u → u = cv) ∧
  PySem.W.kitOne K (.ref C) cv = some b ∧ Q (.bl b) H
theorem call_isD {X : Cx} {a C : Addr} {oe : Obj} {cls : Value} {d : Option Addr} {pn : List (Addr × Obj)} (EC : ExcC X.K C) (hcl : (PySem.W.clsIn X.K C).isSome = true) (hz : Zc cls d oe) (hf : ∃ vs, oe.data = .fields vs) : CallR (X.suite a ((a, oe) :: pn)) (.builtin "isinstance") (rIsD X.K C a cls d) := by
  intro pins s σ H xs us Q I r h
  obtain ⟨c, cv, b, dd, fs, rfl, ec, ed, hH, hcv, e, q⟩ := h
  subst ec ed
  cases r with
  | cons rx rr =>
    cases rr with
    | cons rt rr =>
      cases rr
      cases rx
      have ec := hcv _ rt
      subst ec
      obtain ⟨hget, _⟩ := I.pin (a, oe) (List.mem_append.mpr (.inl List.mem_cons_self))
      obtain ⟨vs, hd⟩ := hf
      have hx : ObjOk X.prog X.w H s.heap dd (.xd fs) := I.hok dd _ hH
      obtain ⟨mA, hns, hr⟩ := hx
      obtain ⟨od, ho, hl⟩ := lookIn_ns hns
      have J : PySem.W.InstAt s.heap a oe C (some od) := ⟨hget, hz.1, by unfold PySem.W.notCls; rw [hd] <;> rfl, by rw [hz.2]; exact ho⟩
      exact PySem.W.kia_one (PySem.W.kitx_exc hcl EC.hg EC.hk EC.hs EC.ha EC.hn EC.ht EC.hm) I.kIn J e (fun z => nomatch z) fun tk => ⟨.bl b, H, I.kept (t' := tk) fun _ _ z => z, rfl, q⟩
/-- isinstance(e, (c1, c2)) -/
def rIsDT (K : PySem.W.Frag) (C a : Addr) (cls : Value) (d : Option Addr) : List V → Hp → VK → Prop := fun xs H Q => ∃ (tp : Addr) (cs : List V) (us : List Value) (b : Bool) (dd : Addr) (fs : List (Str × V)), xs = [.ref a, .ref tp] ∧ cls = .ref C ∧ d = some dd ∧ H dd = some (.xd fs) ∧ H tp = some (.tup cs) ∧ Paired ClsV cs us ∧
  PySem.W.kitAny K (.ref C) us = some b ∧ Q (.bl b) H
theorem call_isDT {X : Cx} {a C : Addr} {oe : Obj} {cls : Value} {d : Option Addr} {pn : List (Addr × Obj)} (EC : ExcC X.K C) (hcl : (PySem.W.clsIn X.K C).isSome = true) (hz : Zc cls d oe) (hf : ∃ vs, oe.data = .fields vs) : CallR (X.suite a ((a, oe) :: pn)) (.builtin "isinstance") (rIsDT X.K C a cls d) := by
  intro pins s σ H xs us Q I r h
  obtain ⟨tp, cs, ws, b, dd, fs, rfl, ec, ed, hH, hT, k, e, q⟩ := h
  subst ec ed
  obtain ⟨u1, u2, rfl, r1, r2⟩ := vals2 r
  cases (show u1 = Value.ref a from r1)
  cases (show u2 = Value.ref tp from r2)
  obtain ⟨hget, _⟩ := I.pin (a, oe) (List.mem_append.mpr (.inl List.mem_cons_self))
  obtain ⟨vs, hd⟩ := hf
  have hx : ObjOk X.prog X.w H s.heap dd (.xd fs) := I.hok dd _ hH
  obtain ⟨mA, hns, hr⟩ := hx
  obtain ⟨od, ho, hl⟩ := lookIn_ns hns
  have J : PySem.W.InstAt s.heap a oe C (some od) := ⟨hget, hz.1, by unfold PySem.W.notCls; rw [hd] <;> rfl, by rw [hz.2]; exact ho⟩
  obtain ⟨_, its, rv, o, h1, h2, n, h3⟩ := (show ObjOk X.prog X.w H s.heap tp (.tup cs) from I.hok tp _ hT)
  have e3 := ClsV.all k rv
  subst e3
  obtain ⟨oc, od2, dt, sl⟩ := o
  simp only at h2 h3
  subst h2 h3
  exact PySem.W.kia_tup (PySem.W.kitx_exc hcl EC.hg EC.hk EC.hs EC.ha EC.hn EC.ht EC.hm) I.kIn J h1 e (fun z => nomatch z) fun tk => ⟨.bl b, H, I.kept (t' := tk) fun _ _ z => z, rfl, q⟩
section
variable {X : Cx}
/-- None != None, (True, t) != (True, t): both answers the same -/
def rNe2 (K : PySem.W.Frag) : R2 := fun x y H Q => (x = .non ∧ y = .non ∧ Q (.bl false) H) ∨ ∃ p q t, x = .ref p ∧ y = .ref q ∧ SqT K H p [.bl true, .str t] ∧ SqT K H q [.bl true, .str t] ∧ Q (.bl false) H
theorem op_ne2 (hu : X.A.units + 64 < cLine) : OpR X (compareOp .NotEq) (rNe2 X.K) := by
  intro pins s σ H x y v u Q I rx ry h
  rcases h with ⟨rfl, rfl, q⟩ | ⟨p, q, t, rfl, rfl, hp, hq, h⟩
  · cases rx
    cases ry
    exact (PySem.SeqAt.RcNeAt.none_none (A := X.A) (s := s)) X.prog X.w X.xe _ ⟨.bl false, H, I, rfl, q⟩
  · cases rx
    cases ry
    obtain ⟨its, r1, p1, _⟩ := I.tuple hp
    obtain ⟨its2, r2, p2, _⟩ := I.tuple hq
    cases r1 with
    | cons a1 b1 =>
    cases b1 with
    | cons a2 b2 =>
    cases b2
    cases r2 with
    | cons c1 d1 =>
    cases d1 with
    | cons c2 d2 =>
    cases d2
    cases a1
    cases c1
    obtain ⟨k1, rfl⟩ := a2
    obtain ⟨k2, rfl⟩ := c2
    have e := PySem.SeqAt.RcNeAt.tuples (A := X.A) (s := s) (e := fun _ => true) p1 p2 (by omega) (fun j h1 h2 => by
      have hj : j = 0 ∨ j = 1 := by
        have : j < 2 := h1
        omega
      rcases hj with rfl | rfl
      · have := PySem.SeqAt.EqAt.bool_bool (A := X.A.in1) (s := s) true true
        simpa using this
      · have := PySem.SeqAt.EqAt.str_str (A := X.A.in1) (s := s) t k1 t k2
        simpa using this)
    exact e X.prog X.w X.xe _ ⟨.bl false, H, I, rfl, h⟩
/-- == of data without dicts -/
def rEqP (K : PySem.W.Frag) : R2 := fun x y H Q => ∃ d e, Dp K H x d ∧ Dp K H y e ∧ d.plain = true ∧ e.plain = true ∧ d.depth ≤ 60 ∧ Q (.bl (PyData.eqv d e)) H
theorem op_eqP (hu : X.A.units + 64 < cLine) : OpR X (compareOp .Eq) (rEqP X.K) := by
  intro pins s σ H x y v u Q I rx ry h
  obtain ⟨d, e, hd, he, sd, se, hz, q⟩ := h
  obtain ⟨as, r1⟩ := Dp.reads I d x v hd rx
  obtain ⟨bs, r2⟩ := Dp.reads I e y u he ry
  exact PySem.SeqAt.rcAt_plain r1 r2 sd se (by have : min d.depth e.depth ≤ d.depth := Nat.min_le_left _ _; omega) X.prog X.w X.xe _ ⟨.bl _, H, I, rfl, q⟩
/-- a sign times a number -/
def rMul1 : R2 := fun x y H Q => ∃ (c n : Nat), x = .str ⟨#[c]⟩ ∧ y = .int (n : Nat) ∧ 1 ≤ n ∧ n ≤ 1000 ∧ Q (.str ⟨(List.replicate n c).toArray⟩) H
theorem rep_fold (c : Nat) : ∀ (n : Nat) (acc : Array Nat), ((List.replicate n #[c]).foldl (· ++ ·) acc).toList = acc.toList ++ List.replicate n c
  | 0, acc => by simp
  | n + 1, acc => by
    rw [List.replicate_succ, List.foldl_cons, rep_fold c n, Array.toList_append, List.replicate_succ, List.append_assoc]
    rfl
theorem mul_one (c n : Nat) (h : 1 ≤ n) : Txt.mul ⟨#[c]⟩ ((n : Nat) : Int) = ⟨(List.replicate n c).toArray⟩ := by
  unfold Txt.mul
  rw [if_neg (by omega)]
  refine TL.ext_tl ?_
  show ((if _ then (⟨#[c]⟩ : Str) else _) : Str).cps.toList = List.replicate n c
  by_cases z : n = 1
  · subst z
    rfl
  · rw [if_neg (by
      intro q
      rcases Bool.or_eq_true_iff.mp q with q | q
      · have := eq_of_beq q
        omega
      · cases q)]
    rw [Int.toNat_natCast]
    show ((List.replicate n #[c]).foldl (· ++ ·) #[]).toList = _
    rw [rep_fold]
    rfl
theorem op_mul1 : OpR X (binaryOp .Mult) rMul1 := by
  intro pins s σ H x y v u Q I rx ry h
  obtain ⟨c, n, rfl, rfl, h1, h2, q⟩ := h
  obtain ⟨t, rfl⟩ := rx
  obtain ⟨t', rfl⟩ := ry
  refine PySem.SB.mul (x := ⟨#[c]⟩) (n := ((n : Nat) : Int)) ⟨?_, fun _ _ => ?_, fun _ _ => ?_⟩ fun t2 k => ?_
  · rw [decide_eq_false (by omega), decide_eq_false (by omega)]
    rfl
  · show ¬ ((1 : Nat) : Int) > (2 ^ 63 - 1) / ((n : Nat) : Int)
    have : (1 : Int) ≤ (2 ^ 63 - 1) / ((n : Nat) : Int) := Int.le_ediv_of_mul_le (by omega) (by omega)
    omega
  · show PySem.Builtin.Str.tooLong (1 * ((n : Nat) : Int).toNat) = false
    rw [Int.toNat_natCast, Nat.one_mul]
    have h3 : (1000 : Nat) ≤ sizeLine := by decide
    exact decide_eq_false (by omega)
  · rw [mul_one c n h1]
    exact ⟨.str _, H, I.tok _, ⟨_, rfl⟩, q⟩
end
end Xe

/-! repr of data, and defs that are called where no repr is under way. -/
namespace Rp
open PySem PySem.Spec PyProof.Rows L2
section
variable {X : Cx}
def rRepr (K : PySem.W.Frag) : List V → Hp → VK → Prop := fun xs H Q => ∃ x d, xs = [x] ∧ Dp K H x d ∧ d.showable = true ∧ d.hasDict = false ∧ d.depth ≤ 60 ∧ d.shown.length ≤ sizeLine ∧ Q (.str d.shown) H
theorem call_reprD (hg : X.A.guards = some []) (hu : X.A.units + 64 < cLine) : CallR X (.builtin "repr") (rRepr X.K) := by
  intro pins s σ H xs us Q I r h
  obtain ⟨x, d, rfl, hd, hs, hn, hz, hl, q⟩ := h
  cases r with
  | cons rx rn =>
    cases rn
    obtain ⟨as, rd⟩ := Dp.reads I d x _ hd rx
    cases rd with
    | none => exact PySem.P.repr_of_none ⟨.str _, H, I.tok _, ⟨_, rfl⟩, q⟩
    | bool b => exact PySem.P.repr_of_bool ⟨.str _, H, I.tok _, ⟨_, rfl⟩, q⟩
    | int i t => exact PySem.P.repr_of_int (of_decide_eq_true hs) ⟨.str _, H, I.tok _, ⟨_, rfl⟩, q⟩
    | str z t => exact PySem.P.repr_of_str (hsz := hl) ⟨.str _, H, I.tok _, ⟨_, rfl⟩, q⟩
    | list h1 h2 h3 h4 =>
      exact PySem.repr_of_reads' (.list h1 h2 h3 h4) hs (fun e => by rw [hn] at e; cases e) hg (by omega) (fun _ _ e => e) (fun g u tk k => ⟨.str _, H, I.kept (t' := tk) k, ⟨_, rfl⟩, q⟩) hl
    | tuple h1 h2 h3 h4 =>
      exact PySem.repr_of_reads' (.tuple h1 h2 h3 h4) hs (fun e => by rw [hn] at e; cases e) hg (by omega) (fun _ _ e => e) (fun g u tk k => ⟨.str _, H, I.kept (t' := tk) k, ⟨_, rfl⟩, q⟩) hl
    | dict => cases hd
end
/-- as FnOk, where no repr is under way -/
structure GOk (P : Program) (w : World) (K : PySem.W.Frag) (mg : Str → Option Value) (base : Heap) (CX : CXT) (k : Nat) (f : Addr) (fd : FuncData) (ps : List Str) (sp : Sp) : Prop where
  len : ∀ vs H Q E, sp vs H Q E → vs.length = ps.length
  run : ∀ (A : Around) (outer : List Env) (s : Shared) (H : Hp) (args : Args) (us : List Value) (vs : List V) (Q : VK) (E : XK), Room k A → A.guards = some [] → Env0 P w K mg base A outer s H → BindsTo s fd args (ps.zip us) → Vals vs us → sp vs H Q E →
    codeAny (model P w) A (.call (.ref f) args) (CR CX outer P w H s Q E) s
section
variable {CX : CXT} {P : Program} {w : World} {K : PySem.W.Frag} {mg : Str → Option Value} {base : Heap} {k : Nat} {f : Addr} {fd : FuncData} {ps : List Str} {sp : Sp}
theorem GOk.of (F : FnOk P w K mg base CX k f fd ps sp) : GOk P w K mg base CX k f fd ps sp := ⟨F.len, fun A outer s H args us vs Q E hr _ => F.run A outer s H args us vs Q E hr⟩
theorem GOk.mono {j : Nat} (F : GOk P w K mg base CX j f fd ps sp) (h : j ≤ k) : GOk P w K mg base CX k f fd ps sp := ⟨F.len, fun A outer s H args us vs Q E hr => F.run A outer s H args us vs Q E (hr.mono h)⟩
theorem gfn_of {name qual : Str} {params : Arguments} {body : List Stmt} {scope : Scope} {dV kV doc pm cdv ct oc : Value} {an od : Option Addr} {osl : Array (Option Value)} {N : List Str}
    (lk : K.lookup f = some ⟨oc, od, .func (PySem.W.fnOf name qual params body scope dV kV doc pm an cdv ct), osl⟩) (hcd : PySem.W.codeIn K cdv qual = true) (S : FnScope N ps scope)
    (len : ∀ vs H Q E, sp vs H Q E → vs.length = ps.length)
    (hbody : ∀ (A : Around) (outer : List Env) (s : Shared) (H : Hp) (vs : List V) (Q : VK) (E : XK), A.guards = some [] → Room k (A.deeper (envOfC qual scope s.heap.objs.size f cdv)) → sp vs H Q E →
      ∃ t, PSs (cxOf CX P w K mg base N qual scope f cdv A outer s H E) body t ∧ t { nx := fun _ H' => Q .non H', rt := Q } (start N vs) H) :
    GOk P w K mg base CX (k + 1) f (PySem.W.fnOf name qual params body scope dV kV doc pm an cdv ct) ps sp := by
  refine ⟨len, fun A outer s H args us vs Q E hr hg e0 hb r hsp => ?_⟩
  have nl := len _ _ _ _ hsp
  have old : ∀ b o, base.get? b = some o → s.heap.get? b = some o := fun b o e => (e0.bs b o e).1
  have KX : K.In s.heap := e0.mod.kin.keeps old
  have lim : s.heap.NoLimit := e0.mod.nolimit.keeps old
  have kinds : ∀ y ∈ ps.zip us, scope.names.lookup y.1 = some .local ∨ (scope.names.lookup y.1 = some .cell ∧ ((cellsFrom (s.heap.objs.size + 1) scope.names []).lookup y.1).isSome = true) := fun ⟨n, v⟩ hy =>
    (S.par n (List.of_mem_zip hy).1).imp id fun q => ⟨q, PySem.W.cellsFrom_some _ _ _ (.inl q)⟩
  refine codeAny_call_function hr.depth (KX _ _ lk) rfl S.co S.gen rfl (PySem.W.codeRec_of KX hcd) (hb _ _ _ _ ?_)
  refine wpAny_newFunctionEnv_cells S.kind kinds fun env ee s1 x => ?_
  subst ee
  refine ⟨lim.keeps x.toInCall.keep, codeAny_func ?_⟩
  obtain ⟨t, ht, hq⟩ := hbody A outer s H vs Q E hg (hr.deeper _) hsp
  have I0 : Inv (cxOf CX P w K mg base N qual scope f cdv A outer s H E) [] (start N vs) H s1 := inv_start S hr.hd e0 nl r x
  refine wpAny_mono (ht.run [] s1 (start N vs) H _ I0 hq) (fun fl s' hs => ?_) fun e s' hs => hs
  cases fl with
  | ret u =>
    obtain ⟨v, σ', H', J, rv, q⟩ := hs
    exact ⟨v, H', J.os, J.bare, J.base, J.hok, rv, q⟩
  | next =>
    obtain ⟨σ', H', J, q⟩ := hs
    exact ⟨V.non, H', J.os, J.bare, J.base, J.hok, rfl, q⟩
  | brk =>
    obtain ⟨_, _, _, q⟩ := hs
    exact q.elim
  | cont =>
    obtain ⟨_, _, _, q⟩ := hs
    exact q.elim
theorem gok {x qual : Str} {st : Stmt} {N : List Str} (F : Fun K x qual st f fd) (S : FnScope N ps (defScope st)) (len : ∀ vs H Q E, sp vs H Q E → vs.length = ps.length)
    (hbody : ∀ (cdv : Value) (A : Around) (outer : List Env) (s : Shared) (H : Hp) (vs : List V) (Q : VK) (E : XK), A.guards = some [] → Room k (A.deeper (envOfC qual (defScope st) s.heap.objs.size f cdv)) → sp vs H Q E →
      ∃ t, PSs (cxOf CX0 P w K mg base N qual (defScope st) f cdv A outer s H E).nox (defBody st) t ∧ t { nx := fun _ H' => Q .non H', rt := Q } (start N vs) H) : GOk P w K mg base CX0 (k + 1) f fd ps sp := by
  obtain ⟨oc, od, kV, doc, pm, an, cdv, ct, osl, rfl, lk, hcd⟩ := F.ex
  refine gfn_of lk hcd S len fun A outer s H vs Q E hg hr hsp => ?_
  obtain ⟨t, h, q⟩ := hbody cdv A outer s H vs Q E hg hr hsp
  exact ⟨t, h.nox, q⟩
end
section
variable {X : Cx} {CX : CXT} {k : Nat} {f : Addr} {fd : FuncData} {ps : List Str} {sp : Sp} {E : XK} {ds : List Value} {dvs : List V} {x : Str} {e : Expr} {es : List Expr} {t : TA} {p pos : Pos}
theorem pe_gcall (F : GOk X.prog X.w X.K X.mg X.base CX k f fd ps sp) (gd : X.A.guards = some []) (hr : Room k X.A) (hg : Gl X x) (hm : X.mg x = some (.ref f)) (hk : PySem.W.keepIn X.K (.ref f) = true) (hb : Binds X.K fd ps ds) (hd : Vals dvs ds) (hx : Passes CX X E)
    (ha : PA X (e :: es) t) (hdb : (x == ("__debug__" : Str)) = false := by decide) (he : starEach (e :: es) X.env = (false, eval e X.env) :: starEach es X.env := by rfl) (hpl : (backTo pos (starEach es X.env)).any (·.1) = false := by rfl) :
    PE X (.Call (.Name x p) (e :: es) [] pos) (tCall sp dvs E t) := by
  refine ⟨fun pins s σ H Q I h => ?_⟩
  refine wpAny_Call_Name_kw (ld_glob I hg hm ?_ hdb)
  refine PySem.W.callWith_K (h₀ := X.base) I.ok.mod.kin hk (thn (ha.run pos pins s σ H _ I h) fun us s1 ⟨vs, H1, I1, r, q⟩ => ⟨I1.kIn, ?_⟩) he hpl
  have r2 : Vals (vs ++ dvs) (us ++ ds) := r.append hd
  have nl : (us ++ ds).length = ps.length := r2.length.symm.trans (F.len _ _ _ _ q)
  refine wpAny_call (codeAny_mono (F.run X.A X.stack s1 H1 ⟨us, []⟩ (us ++ ds) (vs ++ dvs) Q E hr gd I1.env0 (hb s1 us I1.kIn nl) r2 q) fun res s' hq => ?_)
  cases res with
  | error z => exact hx pins σ H1 s1 z s' I1 hq
  | ok fl =>
    cases fl with
    | ret u => exact I1.after hq
    | next => exact hq.elim
    | brk => exact hq.elim
    | cont => exact hq.elim
end
end Rp

/-! A method with keywords alone; a def that may raise, where it does not. -/
namespace Mk1
open PySem PySem.Spec PyProof.Rows L2
theorem passF {X : Cx} : Passes (L2.CX X.prog X.w) X (fun _ _ _ => False) := by
  intro pins σ H s e s' I h
  obtain ⟨_, _, _, _, _, _, _, _, _, _, _, _, z⟩ := h
  exact z.elim
section
variable {X : Cx} {CX : CXT} {k : Nat} {f C : Addr} {fd : FuncData} {ps ks : List Str} {sp : Sp} {E : XK} {m : Str} {pos apos : Pos} {o : Expr} {kws : List Keyword} {ta : TE} {tk : TA} {g : List Value → List Value → List Value} {gV : List V → List V → List V} {pl : Sem Bool}
def tMethN (C : Addr) (m : Str) (n : Nat) (sp : Sp) (gV : List V → List V → List V) (E : XK) (ta : TE) (tk : TA) : TE := fun σ H Q => ta σ H fun x H1 => ∃ a dx fs, x = .ref a ∧ H1 a = some (.ins C dx fs) ∧ fs.lookup m = none ∧
  tk σ H1 fun zs H2 => zs.length = n ∧ sp (gV [x] zs) H2 Q E
theorem pe_methN (ho : PE X o ta) (c : Cls X.K C) (hm : Meth X.K C m f) (F : FnOk X.prog X.w X.K X.mg X.base CX k f fd ps sp) (hr : Room k X.A) (hb : KBn X.K fd ps 1 ks g gV) (hx : Passes CX X E) (hk : PK X kws tk)
    (h1 : (backToKw pos (keywordEach kws X.env)).all (·.1.isSome) = true := by rfl) (h2 : (backToKw pos (keywordEach kws X.env)).filterMap (·.1) = ks := by rfl)
    (h3 : ((backTo pos (starEach [] X.env)).any (·.1) || (backToKw pos (keywordEach kws X.env)).any (·.1.isNone)) = false := by rfl)
    (h4 : eval (.Call (.Attribute o m apos) [] kws pos) X.env = (do
      let v ← eval o X.env
      standAt apos.atName
      let (a, b) ← holding [v] (getMethod v m pl)
      callWith pos a b (backTo pos (starEach [] X.env)) (backToKw pos (keywordEach kws X.env))) := by rfl) :
    PE X (.Call (.Attribute o m apos) [] kws pos) (tMethN C m ks.length sp gV E ta tk) := by
  constructor
  intro pins s σ H Q I h
  refine PySem.W.methodCall_KW (pl := pl) (thn (ho.run pins s σ H _ I h) fun u s1 w => ?_) h4
  obtain ⟨x, H1, I1, rx, a, dx, fs, ex, ea, l, q⟩ := w
  subst ex
  cases (show u = Value.ref a from rx)
  refine getmeth_ok I1 ea c hm l ?_
  refine PySem.W.callWith_KW0 (first := [.ref a]) (h₀ := X.base) I.ok.mod.kin hm.kp h1 (thn (hk.run pos pins s1 σ H1 _ I1 q) fun ws s2 w2 => ?_) h3
  obtain ⟨zs, H2, I2, rz, l2, q2⟩ := w2
  refine ⟨I2.kIn, ?_⟩
  rw [h2]
  exact run_fnN (us := [.ref a]) (vs := [.ref a]) F hr hb hx I2 (.cons rfl .nil) rz rfl l2 q2
end
end Mk1

/-! Operators of own classes, by values: ==, <, .. by __eq__, __lt__, ..; |, &, - by __or__, ..; in by __contains__; len by __len__. -/
namespace Ow
open PySem PySem.Spec PyProof.Rows L2
section
variable {X : Cx} {CX : CXT} {C g : Addr} {n : Nat} {sp : Sp} {E : XK}
theorem ins_at {pins : List (Addr × Obj)} {σ : L2.St} {H : Hp} {s : Shared} {a C dx : Addr} {fs : List (Str × V)} (I : Inv X pins σ H s) (e : H a = some (.ins C dx fs)) : ∃ ox od, PySem.W.InstAt s.heap a ox C od := by
  obtain ⟨mA, O, _⟩ := ins_get I.hok e
  obtain ⟨od, J, _⟩ := O.look
  exact ⟨_, _, J⟩
/-- x op y by the own def of x's class at C; y's class not below C -/
def rCmp (K : PySem.W.Frag) (C : Addr) (sp : Sp) (E : XK) : R2 := fun x y H Q => ∃ a dx fs t, x = .ref a ∧ H a = some (.ins C dx fs) ∧ TyX K H y t ∧ PySem.W.notFirst K C t = true ∧ sp [x, y] H Q E
theorem op_cmp {op : CmpOp} (hop : ∀ a b, compareOp op a b = richCompare op a b) (hs : PySem.W.findIn X.K (.ref C) (cmpInfo op).2.1 = some (some (.ref g))) (hf : PySem.W.isFn X.K (.ref g) = true) (F : FnR X.prog X.w X.K X.mg X.base CX n g sp)
    (hr : Room n X.A) (hx : Passes CX X E) : OpR X (compareOp op) (rCmp X.K C sp E) := by
  intro pins s σ H x y v u Q I rx ry h
  obtain ⟨a, dx, fs, t, rfl, ha, ty, hn, q⟩ := h
  cases (show v = Value.ref a from rx)
  obtain ⟨ox, od, J⟩ := ins_at I ha
  obtain ⟨P, k, hp, _⟩ := kit_of I ry ty
  obtain ⟨m, hF⟩ := I.fr
  rw [hop]
  refine PySem.W.cmp_K (op := op) (tb := t) hr.units0 hF I.ok.mod.kin J (k.ty _ _ I.kIn hp) hn hs hf ?_
  refine wpAny_mono (wpAny_call (run_fnR (us := [.ref a, u]) (vs := [.ref a, y]) F hr hx I (.cons rfl (.cons ry .nil)) q)) (fun w s' z => ?_) fun _ _ x => x
  obtain ⟨z', H', I', rz, qz⟩ := z
  exact SlX.cmpback rz ⟨z', H', I', rz, qz⟩
/-- x op y, both of the class at C -/
def rBin (C : Addr) (sp : Sp) (E : XK) : R2 := fun x y H Q => ∃ a dx fs b dy gs, x = .ref a ∧ y = .ref b ∧ H a = some (.ins C dx fs) ∧ H b = some (.ins C dy gs) ∧ sp [x, y] H Q E
theorem op_bin {op : Operator} (hc : PySem.W.selfFirst X.K C = true) (hs : PySem.W.findIn X.K (.ref C) (PySem.dunder op.info.2) = some (some (.ref g))) (hf : PySem.W.isFn X.K (.ref g) = true) (F : FnR X.prog X.w X.K X.mg X.base CX n g sp)
    (hr : Room n X.A) (hx : Passes CX X E) : OpR X (binaryOp op) (rBin C sp E) := by
  intro pins s σ H x y v u Q I rx ry h
  obtain ⟨a, dx, fs, b, dy, gs, rfl, rfl, ha, hb, q⟩ := h
  cases (show v = Value.ref a from rx)
  cases (show u = Value.ref b from ry)
  obtain ⟨ox, od, J⟩ := ins_at I ha
  obtain ⟨oy, oe, J'⟩ := ins_at I hb
  obtain ⟨m, hF⟩ := I.fr
  refine PySem.W.binop_K (op := op) hF I.ok.mod.kin J J'.type hc hs hf ?_
  refine wpAny_mono (wpAny_call (run_fnR (us := [.ref a, .ref b]) (vs := [.ref a, .ref b]) F hr hx I (.cons rfl (.cons rfl .nil)) q)) (fun w s' z => ?_) fun _ _ x => x
  obtain ⟨z', H', I', rz, qz⟩ := z
  exact SlX.cmpback rz ⟨z', H', I', rz, qz⟩
/-- y in x, by __contains__ (its answer a bool) -/
def rIn (C : Addr) (sp : Sp) (E : XK) (neg : Bool) : R2 := fun y x H Q => ∃ a dx fs, x = .ref a ∧ H a = some (.ins C dx fs) ∧ sp [x, y] H (fun z H' => ∃ c, z = .bl c ∧ Q (.bl (if neg then !c else c)) H') E
theorem op_in (hs : PySem.W.findIn X.K (.ref C) "__contains__" = some (some (.ref g))) (hf : PySem.W.isFn X.K (.ref g) = true) (F : FnR X.prog X.w X.K X.mg X.base CX n g sp)
    (hr : Room n X.A) (hx : Passes CX X E) : OpR X (compareOp .In) (rIn C sp E false) := by
  intro pins s σ H y x u v Q I ry rx h
  obtain ⟨a, dx, fs, rfl, ha, q⟩ := h
  cases (show v = Value.ref a from rx)
  obtain ⟨ox, od, J⟩ := ins_at I ha
  obtain ⟨m, hF⟩ := I.fr
  refine PySem.W.in_K hF I.ok.mod.kin J hs hf ?_
  refine wpAny_mono (wpAny_call (run_fnR (us := [.ref a, u]) (vs := [.ref a, y]) F hr hx I (.cons rfl (.cons ry .nil)) q)) (fun w s' z => ?_) fun _ _ x => x
  obtain ⟨z', H', I', rz, c, rfl, qz⟩ := z
  cases (show w = Value.bool c from rz)
  exact wpAny_truthy_bool ⟨.bl c, H', I', rfl, qz⟩
theorem op_notIn (hs : PySem.W.findIn X.K (.ref C) "__contains__" = some (some (.ref g))) (hf : PySem.W.isFn X.K (.ref g) = true) (F : FnR X.prog X.w X.K X.mg X.base CX n g sp)
    (hr : Room n X.A) (hx : Passes CX X E) : OpR X (compareOp .NotIn) (rIn C sp E true) := by
  intro pins s σ H y x u v Q I ry rx h
  obtain ⟨a, dx, fs, rfl, ha, q⟩ := h
  cases (show v = Value.ref a from rx)
  obtain ⟨ox, od, J⟩ := ins_at I ha
  obtain ⟨m, hF⟩ := I.fr
  refine PySem.W.notIn_K hF I.ok.mod.kin J hs hf ?_
  refine wpAny_mono (wpAny_call (run_fnR (us := [.ref a, u]) (vs := [.ref a, y]) F hr hx I (.cons rfl (.cons ry .nil)) q)) (fun w s' z => ?_) fun _ _ x => x
  obtain ⟨z', H', I', rz, c, rfl, qz⟩ := z
  cases (show w = Value.bool c from rz)
  exact wpAny_truthy_bool ⟨.bl (!c), H', I', rfl, qz⟩
/-- len(x), by __len__ -/
def rLen (C : Addr) (sp : Sp) (E : XK) : List V → Hp → VK → Prop := fun xs H Q => ∃ a dx fs, xs = [V.ref a] ∧ H a = some (.ins C dx fs) ∧ sp [.ref a] H (fun z H' => ∃ i : Int, z = .int i ∧ 0 ≤ i ∧ i < 2 ^ 63 ∧ Q (.int i) H') E
theorem call_len (hs : PySem.W.findIn X.K (.ref C) "__len__" = some (some (.ref g))) (hf : PySem.W.isFn X.K (.ref g) = true) (F : FnR X.prog X.w X.K X.mg X.base CX n g sp)
    (hr : Room (n + 1) X.A) (hx : Passes CX X E) : CallR X (.builtin "len") (rLen C sp E) := by
  intro pins s σ H xs us Q I r h
  obtain ⟨a, dx, fs, rfl, ha, q⟩ := h
  obtain ⟨u, rfl, ru⟩ := r.one
  cases (show u = Value.ref a from ru)
  obtain ⟨ox, od, J⟩ := ins_at I ha
  obtain ⟨m, hF⟩ := I.fr
  refine PySem.W.len_K hF I.ok.mod.kin J hs hf (wpAny_mono (wpAny_call (SlX.run_at (us := [.ref a]) (ws := [.ref a]) F hr.in1 I.env0.in1 hx I (.cons rfl .nil) q)) (fun w s' z => ?_) fun _ _ x => x)
  obtain ⟨z', H', I', rz, i, rfl, h0, h1, qz⟩ := z
  obtain ⟨t, e⟩ := (show ∃ t, w = Value.int i t from rz)
  cases e
  exact ⟨⟨h0, h1⟩, .int i, H', I'.tok _, ⟨_, rfl⟩, qz⟩
end
end Ow

/-! x op y by the own def of x's class, y of a built-in type; a call that may raise in a try whose suite asks only its own name. -/
namespace Po
open PySem PySem.Spec PyProof.Rows L2
theorem passL {X : Cx} {W : WX} (n : Nat) (hn : X.N.length = n) (tk : Takes X W) : Passes (L2.CX X.prog X.w) X (fun cls d H => ∀ σ : L2.St, σ.length = n → W cls d σ H) :=
  fun _ σ _ _ e s' I c => tk e s' (XE.of_call I (fun _ _ _ h => h σ (I.len.trans hn)) c)
/-- what is asked of the type T on the right -/
structure RT (K : PySem.W.Frag) (op : Operator) (C : Addr) (T : String) : Prop where
  ex : ∃ fo ro : Option Value, PySem.W.findIn K (.type T) (PySem.dunder op.info.2) = some fo ∧ PySem.W.findIn K (.type T) (dunderR op.info.2) = some ro
  sub : PySem.W.subIn K (.type T) (.ref C) = some false
/-- and of the class on the left -/
structure LT (K : PySem.W.Frag) (op : Operator) (C : Addr) : Prop where
  rc : ∃ rc : Option Value, PySem.W.findIn K (.ref C) (dunderR op.info.2) = some rc ∧ (rc = none ∨ ∃ g : Addr, rc = some (.ref g))
  sf : PySem.W.selfFirst K C = true
section
open PySem.W
variable {prog : Program} {w : World} {A : Around} {E : Value → Shared → Prop} {s : Shared} {K : Frag} {x C L f : Addr} {h₀ : Heap} {m : Str → Option Value} {ox : Obj} {od : Option Obj} {T : String}
theorem bin_at {op : Operator} {b : Value} {Q : Value → Shared → Prop} (F : Fr h₀ L s.heap m) (kin : K.In h₀) (I : InstAt s.heap x ox C od) (hb : Looks (model prog w) s.heap (typeOf b) (.type T)) (lt : LT K op C)
    (own : findIn K (.ref C) (PySem.dunder op.info.2) = some (some (.ref f))) (fn : isFn K (.ref f) = true) (rt : RT K op C T)
    (go : wpAny (model prog w) A (call (.ref f) [.ref x, b]) (PySem.W.CmpBack Q) E s) : wpAny (model prog w) A (binaryOp op (.ref x) b) Q E s := by
  have kn := kin.keeps F.keep
  obtain ⟨⟨fo, ro, t1, t2⟩, apart⟩ := rt
  obtain ⟨⟨rc, back, bk⟩, first⟩ := lt
  obtain ⟨cd, rest, ecd, emro⟩ := ksp_first first
  rcases hop : op.info with ⟨sg, nm⟩
  rw [hop] at own back t1 t2
  dsimp only at own back t1 t2
  have tried := ksp_try kn I own fn go
  obtain ⟨hp, gn, dr, tks, oss⟩ := s
  have k1 : Looks (model prog w) hp (typeOf (Value.ref x)) (Value.ref C) := I.type
  have k2 : Looks (model prog w) hp (typeOf b) (Value.type T) := hb
  have k3 : Looks (model prog w) hp (fillsNumberSlot (Value.ref C) nm) true := fills_K kn ecd emro own
  have k4 := ksp_fillsT (M := model prog w) kn t1 t2
  have k5 : Looks (model prog w) hp (isSubtype (Value.type T) (Value.ref C)) false := looks_subIn kn apart
  have k6 : Looks (model prog w) hp (numberSlotInPython (Value.ref C) nm) true := ksp_inPy kn own back bk
  have k7 : Looks (model prog w) hp (numberSlotInPython (Value.type T) nm) false := Looks.of_pure rfl
  have k8 : Looks (model prog w) hp (typeLookup (Value.type T) (dunderR nm)) ro := looks_findIn kn t2
  revert k4
  generalize ((fo.isSome && !isSeqSlot fo) || (ro.isSome && !isSeqSlot ro)) = rgt
  intro k4
  have apart2 : (Value.ref C == Value.type T) = false := by
    cases q : (Value.ref C == Value.type T) with
    | false => rfl
    | true => cases beq_iff_eq.mp q
  simp only [binaryOp, hop]
  apply wpAny_holding
  apply wpAny_bind
  unfold binaryOp1
  refine wpAny_bind (k1.at ?_)
  refine wpAny_bind (k2.at ?_)
  refine wpAny_bind (k3.at ?_)
  simp only [apart2, Bool.false_eq_true, if_false]
  cases rgt <;>
    (ksp_lk
     refine wpAny_mono tried (fun r s' z => ?_) fun _ _ e => e
     obtain ⟨v, rfl, hq⟩ := z
     ksp_lk
     exact hq)
end
section
variable {X : Cx} {CX : CXT} {C g : Addr} {n : Nat} {sp : Sp} {E : XK}
/-- x op y by the own def of x's class at C; y of a built-in type -/
def rBinT (K : PySem.W.Frag) (op : Operator) (C : Addr) (sp : Sp) (E : XK) : R2 := fun x y H Q => ∃ a dx fs T, x = .ref a ∧ H a = some (.ins C dx fs) ∧ TyX K H y (.type T) ∧ RT K op C T ∧ sp [x, y] H Q E
theorem op_binI {op : Operator} (lt : LT X.K op C) (hs : PySem.W.findIn X.K (.ref C) (PySem.dunder op.info.2) = some (some (.ref g))) (hf : PySem.W.isFn X.K (.ref g) = true) (F : FnR X.prog X.w X.K X.mg X.base CX n g sp)
    (hr : Room n X.A) (hx : Passes CX X E) : OpR X (binaryOp op) (rBinT X.K op C sp E) := by
  intro pins s σ H x y v u Q I rx ry h
  obtain ⟨a, dx, fs, T, rfl, ha, ty, rt, q⟩ := h
  cases (show v = Value.ref a from rx)
  obtain ⟨ox, od, J⟩ := Ow.ins_at I ha
  obtain ⟨P, k, hp, _⟩ := kit_of I ry ty
  obtain ⟨m, hF⟩ := I.fr
  refine bin_at hF I.ok.mod.kin J (k.ty _ _ I.kIn hp) lt hs hf rt ?_
  refine wpAny_mono (wpAny_call (run_fnR (us := [.ref a, u]) (vs := [.ref a, y]) F hr hx I (.cons rfl (.cons ry .nil)) q)) (fun w s' z => ?_) fun _ _ x => x
  obtain ⟨z', H', I', rz, qz⟩ := z
  exact SlX.cmpback rz ⟨z', H', I', rz, qz⟩
end
end Po

/-! Comprehensions whose items draw from the bag, told one by one. -/
namespace Lm
open PySem L2 Wm Dv
theorem kt_but {K : PySem.W.Frag} {H H' : Hp} {b : Addr} {n : Nat} (bag : Bag H b n) (e : But b H H') : Kt K H H' := fun a xs q => by
  obtain ⟨c, x, k, m, z, ns, hb, _⟩ := bag
  have ne : ∀ {u : HO}, H a = some u → (∀ y, u ≠ .lst y) → H' a = some u := fun {u} h n => e.keep _ _ (fun z => by subst z; rw [hb] at h; exact n _ (Option.some.inj h).symm) h
  rcases q with (q | ⟨ob, q⟩) | q
  · exact .inl (.inl (ne q fun y z => by cases z))
  · exact .inl (.inr ⟨ob, ne q fun y z => by cases z⟩)
  · exact .inr q
theorem bag_off {H : Hp} {b p : Addr} {n : Nat} (bag : Bag H b n) (h : H p = none) : p ≠ b := fun e => by
  obtain ⟨_, _, _, _, _, _, hb, _⟩ := bag
  rw [e, hb] at h
  cases h
theorem lc_bag {K : PySem.W.Frag} {J : It} {n : Nat} {G : Hp → Prop} {xs : List V} (w : Walk J n G (YAt xs)) {g : TG} {te : TE} {vs : List Nat} {σ : L2.St} {H1 : Hp} {D : Addr} {Qd : Hp → Prop} {b : Addr} {m c : Nat} (R : Nat → V → Hp → Prop)
    (mono : ∀ i y H H', R i y H → Kt K H H' → R i y H') (hD : H1 D = none) (bag : Bag H1 b m) (hn : n ≤ 1000) (hG : ∀ H', But b H1 H' → G H')
    (hs : ∀ i x H', i < n → xs[i]? = some x → But b H1 H' → Bag H' b (m + c * i) → ∀ (Q : V → Hp → Prop) (Z : Hp → Prop), (∀ y H4, But b H' H4 → Bag H4 b (m + c * (i + 1)) → R i y H4 → Q y H4) → g x (wipe σ vs) H' fun σ2 H2 => wipe σ2 vs = wipe σ vs ∧ tYes σ2 H2 fun b H3 => if b = true then te σ2 H3 Q else Z H3)
    (hd : ∀ H ys, But b H1 H → Bag H b (m + c * n) → H D = some (.lst ys) → ys.length = n → (∀ (i : Nat) y, ys[i]? = some y → R i y H) → Qd H) :
    ∃ W : Nat → Nat → Hp → Prop, (∃ m, W 0 m (upd H1 D (.lst []))) ∧ ∀ i m H, W i m H →
      (J.stop i H ∧ Qd H) ∨ (J.go i H ∧ ∃ Nx : Hp → Prop, (∀ H', Nx H' → ∃ m', m' < m ∧ W (i + 1) m' H') ∧ ∀ x H', J.yld i H x H' → g x (wipe σ vs) H' fun σ2 H2 => wipe σ2 vs = wipe σ vs ∧ tYes σ2 H2 fun b H3 =>
        if b = true then te σ2 H3 fun y H4 => ∃ acc, H4 D = some (.lst acc) ∧ acc.length < sizeLine ∧ Nx (upd H4 D (.lst (acc ++ [y]))) else Nx H3) := by
  have db := bag_off bag hD
  refine lc_it (tt := tYes) w (fun i H => But b H1 H ∧ Bag H b (m + c * i) ∧ ∃ ys : List V, ys.length = i ∧ H D = some (.lst ys) ∧ ∀ j y, ys[j]? = some y → R j y H)
    ⟨But.of (same_new hD), (bag.keep (same_new hD)).mono (by omega), [], rfl, upd_same, fun (j : Nat) (y : V) e => by simp at e⟩ (fun i H _ h => hG H h.1) (fun i x H H' hi hP hY => ?_) (fun H hP => ?_)
  · obtain ⟨bt, bg, ys, el, hy, hR⟩ := hP
    obtain ⟨rfl, hx⟩ := hY
    refine hs i x H' hi hx bt bg _ _ (fun y H4 b4 g4 r4 => ?_)
    have hy4 := b4.keep _ _ db hy
    have k5 : Kt K H4 (upd H4 D (.lst (ys ++ [y]))) := Kt.lst hy4
    refine ⟨ys, hy4, by rw [el]; exact small1000 (by omega), (bt.trans b4).put hD, Bag.put bag hD (bt.trans b4) g4, ys ++ [y], by rw [List.length_append, el]; rfl, upd_same, fun j z hz => ?_⟩
    by_cases lj : j < ys.length
    · rw [List.getElem?_append_left lj] at hz
      exact mono _ _ _ _ (hR j z hz) ((kt_but bg b4).trans k5)
    · rw [List.getElem?_append_right (by omega)] at hz
      have e0 : j - ys.length = 0 := by
        by_cases q : j - ys.length = 0
        · exact q
        · rw [List.getElem?_eq_none (by rw [List.length_singleton]; omega)] at hz
          cases hz
      rw [e0] at hz
      have ez : y = z := by simpa using hz
      have ej : j = i := by omega
      subst ez ej
      exact mono _ _ _ _ r4 k5
  · obtain ⟨bt, bg, ys, el, hy, hR⟩ := hP
    exact hd H ys bt bg hy el hR
end Lm

/-! Comprehensions whose items are told one by one: over any walk, with facts that live on all but the list that is made. -/
namespace Lm
open PySem L2 Wm Dv
/-- what stood stands, but for D -/
def Bar (D : Addr) (H H' : Hp) : Prop := ∀ a o, a ≠ D → H a = some o → H' a = some o
theorem Bar.kt {K : PySem.W.Frag} {D : Addr} {H H' : Hp} {ys : List V} (hy : H D = some (.lst ys)) (e : Bar D H H') : Kt K H H' := fun a xs q => by
  have ne : ∀ {u : HO}, H a = some u → (∀ y, u ≠ .lst y) → H' a = some u := fun {u} h n => e _ _ (fun z => by subst z; rw [hy] at h; exact n _ (Option.some.inj h).symm) h
  rcases q with (q | ⟨ob, q⟩) | q
  · exact .inl (.inl (ne q fun y z => by cases z))
  · exact .inl (.inr ⟨ob, ne q fun y z => by cases z⟩)
  · exact .inr q
theorem lc_any {J : It} {n : Nat} {G : Hp → Prop} {Y : Nat → Hp → V → Hp → Prop} (w : Walk J n G Y) {g : TG} {te : TE} {vs : List Nat} {σ : L2.St} {H1 : Hp} {D : Addr} {Qd : Hp → Prop} (R : Nat → V → Hp → Prop)
    (mono : ∀ i y H H' ys, R i y H → H D = some (.lst ys) → Bar D H H' → R i y H') (hY : ∀ i H x H', Y i H x H' → Same H H') (hD : H1 D = none) (hn : n ≤ 1000) (hG : ∀ H', Same H1 H' → G H')
    (hs : ∀ i x H H', i < n → Same H1 H → (∃ ys, H D = some (.lst ys)) → Y i H x H' → ∀ (Q : V → Hp → Prop) (Z : Hp → Prop), (∀ y H4, Same H' H4 → R i y H4 → Q y H4) → g x (wipe σ vs) H' fun σ2 H2 => wipe σ2 vs = wipe σ vs ∧ tYes σ2 H2 fun b H3 => if b = true then te σ2 H3 Q else Z H3)
    (hd : ∀ H ys, Same H1 H → H D = some (.lst ys) → ys.length = n → (∀ (i : Nat) y, ys[i]? = some y → R i y H) → Qd H) :
    ∃ W : Nat → Nat → Hp → Prop, (∃ m, W 0 m (upd H1 D (.lst []))) ∧ ∀ i m H, W i m H →
      (J.stop i H ∧ Qd H) ∨ (J.go i H ∧ ∃ Nx : Hp → Prop, (∀ H', Nx H' → ∃ m', m' < m ∧ W (i + 1) m' H') ∧ ∀ x H', J.yld i H x H' → g x (wipe σ vs) H' fun σ2 H2 => wipe σ2 vs = wipe σ vs ∧ tYes σ2 H2 fun b H3 =>
        if b = true then te σ2 H3 fun y H4 => ∃ acc, H4 D = some (.lst acc) ∧ acc.length < sizeLine ∧ Nx (upd H4 D (.lst (acc ++ [y]))) else Nx H3) := by
  refine lc_it (tt := tYes) w (fun i H => Same H1 H ∧ ∃ ys : List V, ys.length = i ∧ H D = some (.lst ys) ∧ ∀ j y, ys[j]? = some y → R j y H) ⟨same_new hD, [], rfl, upd_same, fun (j : Nat) (y : V) e => by simp at e⟩ (fun i H _ h => hG H h.1) (fun i x H H' hi hP y => ?_) (fun H hP => ?_)
  · obtain ⟨sm, ys, el, hy, hR⟩ := hP
    have sy := hY _ _ _ _ y
    refine hs i x H H' hi sm ⟨ys, hy⟩ y _ _ (fun y H4 s4 r4 => ?_)
    have s5 := sy.trans s4
    have b5 : Bar D H4 (upd H4 D (.lst (ys ++ [y]))) := fun a o n e => by
      rw [upd_ne n]
      exact e
    refine ⟨ys, s5 _ _ hy, by rw [el]; exact small1000 (by omega), same_mut (sm.trans s5) hD, ys ++ [y], by rw [List.length_append, el]; rfl, upd_same, fun j z hz => ?_⟩
    by_cases lj : j < ys.length
    · rw [List.getElem?_append_left lj] at hz
      exact mono _ _ _ _ _ (mono _ _ _ _ _ (hR j z hz) hy fun a o _ e => s5 _ _ e) (s5 _ _ hy) b5
    · rw [List.getElem?_append_right (by omega)] at hz
      have e0 : j - ys.length = 0 := by
        by_cases q : j - ys.length = 0
        · exact q
        · rw [List.getElem?_eq_none (by rw [List.length_singleton]; omega)] at hz
          cases hz
      rw [e0] at hz
      have ez : y = z := by simpa using hz
      have ej : j = i := by omega
      subst ez ej
      exact mono _ _ _ _ _ r4 (s5 _ _ hy) b5
  · obtain ⟨sm, ys, el, hy, hR⟩ := hP
    exact hd H ys sm hy el hR
/-- the same, the items apart from one another -/
theorem lc_apart {J : It} {n : Nat} {G : Hp → Prop} {Y : Nat → Hp → V → Hp → Prop} (w : Walk J n G Y) {g : TG} {te : TE} {vs : List Nat} {σ : L2.St} {H1 : Hp} {D : Addr} {Qd : Hp → Prop} (R : Nat → V → Hp → Prop) (N : V → V → Prop)
    (mono : ∀ i y H H' ys, R i y H → H D = some (.lst ys) → Bar D H H' → R i y H') (hY : ∀ i H x H', Y i H x H' → Same H H') (hD : H1 D = none) (hn : n ≤ 1000) (hG : ∀ H', Same H1 H' → G H')
    (hs : ∀ i x H H', i < n → Same H1 H → (∃ ys, H D = some (.lst ys)) → Y i H x H' → ∀ ys : List V, (∀ (j : Nat) z, ys[j]? = some z → R j z H) → ∀ (Q : V → Hp → Prop) (Z : Hp → Prop), (∀ y H4, Same H' H4 → R i y H4 → (∀ z ∈ ys, N z y) → Q y H4) → g x (wipe σ vs) H' fun σ2 H2 => wipe σ2 vs = wipe σ vs ∧ tYes σ2 H2 fun b H3 => if b = true then te σ2 H3 Q else Z H3)
    (hd : ∀ H ys, Same H1 H → H D = some (.lst ys) → ys.length = n → (∀ (i : Nat) y, ys[i]? = some y → R i y H) → ys.Pairwise N → Qd H) :
    ∃ W : Nat → Nat → Hp → Prop, (∃ m, W 0 m (upd H1 D (.lst []))) ∧ ∀ i m H, W i m H →
      (J.stop i H ∧ Qd H) ∨ (J.go i H ∧ ∃ Nx : Hp → Prop, (∀ H', Nx H' → ∃ m', m' < m ∧ W (i + 1) m' H') ∧ ∀ x H', J.yld i H x H' → g x (wipe σ vs) H' fun σ2 H2 => wipe σ2 vs = wipe σ vs ∧ tYes σ2 H2 fun b H3 =>
        if b = true then te σ2 H3 fun y H4 => ∃ acc, H4 D = some (.lst acc) ∧ acc.length < sizeLine ∧ Nx (upd H4 D (.lst (acc ++ [y]))) else Nx H3) := by
  refine lc_it (tt := tYes) w (fun i H => Same H1 H ∧ ∃ ys : List V, ys.length = i ∧ H D = some (.lst ys) ∧ (∀ j y, ys[j]? = some y → R j y H) ∧ ys.Pairwise N) ⟨same_new hD, [], rfl, upd_same, (fun (j : Nat) (y : V) e => by simp at e), .nil⟩ (fun i H _ h => hG H h.1) (fun i x H H' hi hP y => ?_) (fun H hP => ?_)
  · obtain ⟨sm, ys, el, hy, hR, hN⟩ := hP
    have sy := hY _ _ _ _ y
    refine hs i x H H' hi sm ⟨ys, hy⟩ y ys hR _ _ (fun y H4 s4 r4 n4 => ?_)
    have s5 := sy.trans s4
    have b5 : Bar D H4 (upd H4 D (.lst (ys ++ [y]))) := fun a o n e => by
      rw [upd_ne n]
      exact e
    refine ⟨ys, s5 _ _ hy, by rw [el]; exact small1000 (by omega), same_mut (sm.trans s5) hD, ys ++ [y], by rw [List.length_append, el]; rfl, upd_same, fun j z hz => ?_, List.pairwise_append.mpr ⟨hN, List.pairwise_singleton _ _, fun a ma c mc => by rw [List.mem_singleton.mp mc]; exact n4 a ma⟩⟩
    by_cases lj : j < ys.length
    · rw [List.getElem?_append_left lj] at hz
      exact mono _ _ _ _ _ (mono _ _ _ _ _ (hR j z hz) hy fun a o _ e => s5 _ _ e) (s5 _ _ hy) b5
    · rw [List.getElem?_append_right (by omega)] at hz
      have e0 : j - ys.length = 0 := by
        by_cases q : j - ys.length = 0
        · exact q
        · rw [List.getElem?_eq_none (by rw [List.length_singleton]; omega)] at hz
          cases hz
      rw [e0] at hz
      have ez : y = z := by simpa using hz
      have ej : j = i := by omega
      subst ez ej
      exact mono _ _ _ _ _ r4 (s5 _ _ hy) b5
  · obtain ⟨sm, ys, el, hy, hR, hN⟩ := hP
    exact hd H ys sm hy el hR hN
theorem same_at {xs : List V} {i : Nat} {H H' : Hp} {x : V} (h : YAt xs i H x H') : Same H H' := by
  obtain ⟨rfl, _⟩ := h
  exact Same.refl _
theorem same_pair {f g : Nat → Option V} {i : Nat} {H H' : Hp} {x : V} (h : YPair f g i H x H') : Same H H' := by
  obtain ⟨T, a, b, rfl, hT, rfl, _⟩ := h
  exact same_new hT
end Lm
namespace Kx
open PySem L2
def rLst (K : PySem.W.Frag) : List V → Hp → VK → Prop := fun xs H Q => ∃ p ys, xs = [.ref p] ∧ (SqL K H p ys ∨ SqT K H p ys) ∧ ∀ l, H l = none → Q (.ref l) (upd H l (.lst ys))
end Kx

/-! A call by keywords that may raise, its exception's part told by the state at the call. -/
namespace Kw
open PySem PySem.Spec PyProof.Rows L2
section
variable {X : Cx} {CX : CXT} {k n : Nat} {f : Addr} {fd : FuncData} {ps ks : List Str} {sp : Sp} {E : L2.St → XK} {x : Str} {e : Expr} {es : List Expr} {kws : List Keyword} {t tk : TA} {p pos : Pos} {g : List Value → List Value → List Value} {gV : List V → List V → List V}
theorem run_fnNS {pins : List (Addr × Obj)} {σ : L2.St} {H : Hp} {s : Shared} {Q : VK} {us ws : List Value} {vs zs : List V} (F : FnOk X.prog X.w X.K X.mg X.base CX k f fd ps sp) (hr : Room k X.A) (hb : KBn X.K fd ps n ks g gV) (hx : PassesAt CX X σ (E σ))
    (I : Inv X pins σ H s) (r : Vals vs us) (rz : Vals zs ws) (l1 : vs.length = n) (l2 : zs.length = ks.length) (h : sp (gV vs zs) H Q (E σ)) : wpAny (model X.prog X.w) X.A (call (.ref f) us (ks.zip ws)) (EP X pins σ Q) X.xe s := by
  have r2 := hb.rel r rz
  refine wpAny_call (codeAny_mono (F.run X.A X.stack s H ⟨us, ks.zip ws⟩ (g us ws) (gV vs zs) Q (E σ) hr I.env0 (hb.to s us ws I.kIn (r.length.symm.trans l1) (rz.length.symm.trans l2)) r2 h) fun r s' hq => ?_)
  cases r with
  | error e => exact hx pins H s e s' I hq
  | ok fl =>
    cases fl with
    | ret u => exact I.after hq
    | next => exact False.elim hq
    | brk => exact False.elim hq
    | cont => exact False.elim hq
def tCallNS (n m : Nat) (sp : Sp) (gV : List V → List V → List V) (E : L2.St → XK) (t tk : TA) : TE := fun σ H Q => t σ H fun vs H1 => tk σ H1 fun zs H2 => vs.length = n ∧ zs.length = m ∧ sp (gV vs zs) H2 Q (E σ)
theorem pe_callNS (F : FnOk X.prog X.w X.K X.mg X.base CX k f fd ps sp) (hr : Room k X.A) (hg : Gl X x) (hm : X.mg x = some (.ref f)) (hk : PySem.W.keepIn X.K (.ref f) = true) (hb : KBn X.K fd ps n ks g gV) (hx : ∀ σ, PassesAt CX X σ (E σ))
    (ha : PA X (e :: es) t) (hkw : PK X kws tk) (hall : (backToKw pos (keywordEach kws X.env)).all (·.1.isSome) = true := by rfl) (hks : (backToKw pos (keywordEach kws X.env)).filterMap (·.1) = ks := by rfl)
    (hdb : (x == ("__debug__" : Str)) = false := by decide) (he : starEach (e :: es) X.env = (false, eval e X.env) :: starEach es X.env := by rfl)
    (hpl : ((backTo pos (starEach (e :: es) X.env)).any (·.1) || (backToKw pos (keywordEach kws X.env)).any (·.1.isNone)) = false := by rfl) :
    PE X (.Call (.Name x p) (e :: es) kws pos) (tCallNS n ks.length sp gV E t tk) := by
  refine ⟨fun pins s σ H Q I h => ?_⟩
  refine wpAny_Call_Name_kw (ld_glob I hg hm ?_ hdb)
  refine PySem.W.callWith_KW (h₀ := X.base) I.ok.mod.kin hk hall (thn (ha.run pos pins s σ H _ I h) fun us s1 ⟨vs, H1, I1, r, q⟩ => ?_) hpl he
  refine thn (hkw.run pos pins s1 σ H1 _ I1 q) fun ws s2 ⟨zs, H2, I2, rz, l1, l2, q2⟩ => ⟨I2.kIn, ?_⟩
  rw [hks]
  exact run_fnNS F hr hb (hx σ) I2 r rz l1 l2 q2
end
end Kw
/-! Making an object by C(e, .., k = v, ..) within a try: what is raised is wished for at the slots as they stand. -/
namespace Kw
open PySem PySem.Spec PyProof.Rows L2
section
variable {X : Cx} {CX : CXT} {k n : Nat} {f C : Addr} {fd : FuncData} {ps ks : List Str} {sp : Sp} {E : L2.St → XK} {x : Str} {e : Expr} {es : List Expr} {kws : List Keyword} {t tk : TA} {p pos : Pos} {g : List Value → List Value → List Value} {gV : List V → List V → List V}
def tMakeKS (C : Addr) (n m : Nat) (sp : Sp) (gV : List V → List V → List V) (E : L2.St → XK) (t tk : TA) : TE := fun σ H Q => t σ H fun vs H1 => tk σ H1 fun zs H2 => vs.length = n ∧ zs.length = m ∧
  ∀ x dx, H2 x = none → H2 dx = none → dx ≠ x → sp (gV (.ref x :: vs) zs) (upd (upd H2 dx (.own x)) x (.ins C dx [])) (fun v H3 => v = .non ∧ Q (.ref x) H3) (E σ)
theorem pe_makeKS (M : Mk X.K C f) (F : FnOk X.prog X.w X.K X.mg X.base CX k f fd ps sp) (hr : Room (k + 1) X.A) (hg : Gl X x) (hm : X.mg x = some (.ref C)) (hb : KBn X.K fd ps (n + 1) ks g gV) (hx : ∀ σ, PassesAt CX X σ (E σ)) (ha : PA X (e :: es) t) (hkw : PK X kws tk)
    (hall : (backToKw pos (keywordEach kws X.env)).all (·.1.isSome) = true := by rfl) (hks : (backToKw pos (keywordEach kws X.env)).filterMap (·.1) = ks := by rfl) (hdb : (x == ("__debug__" : Str)) = false := by decide)
    (he : starEach (e :: es) X.env = (false, eval e X.env) :: starEach es X.env := by rfl) (hpl : ((backTo pos (starEach (e :: es) X.env)).any (·.1) || (backToKw pos (keywordEach kws X.env)).any (·.1.isNone)) = false := by rfl) :
    PE X (.Call (.Name x p) (e :: es) kws pos) (tMakeKS C n ks.length sp gV E t tk) := by
  refine ⟨fun pins s σ H Q I h => ?_⟩
  refine wpAny_Call_Name_kw (ld_glob I hg hm ?_ hdb)
  refine PySem.W.callWith_KW (h₀ := X.base) I.ok.mod.kin M.kp hall (thn (ha.run pos pins s σ H _ I h) fun us s1 w => ?_) hpl he
  obtain ⟨vs, H1, I1, r, q⟩ := w
  refine thn (hkw.run pos pins s1 σ H1 _ I1 q) fun ws s2 w2 => ?_
  obtain ⟨zs, H2, J, rz, l1, l2, q2⟩ := w2
  refine ⟨J.kIn, ?_⟩
  rw [hks]
  have go := q2 (s2.heap.objs.size + 1) s2.heap.objs.size (J.hok.fresh (Nat.le_succ _)) (J.hok.fresh (Nat.le_refl _)) (Nat.ne_of_lt (Nat.lt_succ_self _))
  have J2 := Inv.made (C := C) J
  have r1 : Vals (V.ref (s2.heap.objs.size + 1) :: vs) (Value.ref (s2.heap.objs.size + 1) :: us) := .cons rfl r
  have n1 : (Value.ref (s2.heap.objs.size + 1) :: us).length = n + 1 := r1.length.symm.trans (congrArg (· + 1) l1)
  have ran := F.run _ X.stack _ _ ⟨Value.ref (s2.heap.objs.size + 1) :: us, ks.zip ws⟩ _ _ _ (E σ) (hr.make C us (ks.zip ws)) (J2.env0.make C us (ks.zip ws)) (hb.to _ _ ws J2.kIn n1 (rz.length.symm.trans l2)) (hb.rel r1 rz) go
  refine wpAny_call (make_map (f := f) J.kIn M.makes M.init (beq_iff_eq.mp M.fn) (codeAny_mono ran fun z t2 hz => ?_))
  match z, hz with
  | .error _, hz => exact hx σ pins _ _ _ _ J2 hz
  | .ok (.ret _), hz =>
    obtain ⟨_, _, J3, rv, ev, q3⟩ := J2.after hz
    subst ev
    exact ⟨rv, V.ref (s2.heap.objs.size + 1), _, J3, rfl, q3⟩
  | .ok .next, hz => exact hz.elim
  | .ok .brk, hz => exact hz.elim
  | .ok .cont, hz => exact hz.elim
end
section
variable {X : Cx} {CX : CXT} {k n : Nat} {f C : Addr} {fd : FuncData} {ps ks : List Str} {sp : Sp} {E : L2.St → XK} {m : Str} {pos apos : Pos} {o : Expr} {kws : List Keyword} {ta : TE} {tk : TA} {g : List Value → List Value → List Value} {gV : List V → List V → List V} {pl : Sem Bool}
def tMethNS (C : Addr) (m : Str) (n : Nat) (sp : Sp) (gV : List V → List V → List V) (E : L2.St → XK) (ta : TE) (tk : TA) : TE := fun σ H Q => ta σ H fun x H1 => ∃ a dx fs, x = .ref a ∧ H1 a = some (.ins C dx fs) ∧ fs.lookup m = none ∧
  tk σ H1 fun zs H2 => zs.length = n ∧ sp (gV [x] zs) H2 Q (E σ)
theorem pe_methNS (ho : PE X o ta) (c : Cls X.K C) (hm : Meth X.K C m f) (F : FnOk X.prog X.w X.K X.mg X.base CX k f fd ps sp) (hr : Room k X.A) (hb : KBn X.K fd ps 1 ks g gV) (hx : ∀ σ, PassesAt CX X σ (E σ)) (hk : PK X kws tk)
    (h1 : (backToKw pos (keywordEach kws X.env)).all (·.1.isSome) = true := by rfl) (h2 : (backToKw pos (keywordEach kws X.env)).filterMap (·.1) = ks := by rfl)
    (h3 : ((backTo pos (starEach [] X.env)).any (·.1) || (backToKw pos (keywordEach kws X.env)).any (·.1.isNone)) = false := by rfl)
    (h4 : eval (.Call (.Attribute o m apos) [] kws pos) X.env = (do
      let v ← eval o X.env
      standAt apos.atName
      let (a, b) ← holding [v] (getMethod v m pl)
      callWith pos a b (backTo pos (starEach [] X.env)) (backToKw pos (keywordEach kws X.env))) := by rfl) :
    PE X (.Call (.Attribute o m apos) [] kws pos) (tMethNS C m ks.length sp gV E ta tk) := by
  constructor
  intro pins s σ H Q I h
  refine PySem.W.methodCall_KW (pl := pl) (thn (ho.run pins s σ H _ I h) fun u s1 w => ?_) h4
  obtain ⟨x, H1, I1, rx, a, dx, fs, ex, ea, l, q⟩ := w
  subst ex
  cases (show u = Value.ref a from rx)
  refine getmeth_ok I1 ea c hm l ?_
  refine PySem.W.callWith_KW0 (first := [.ref a]) (h₀ := X.base) I.ok.mod.kin hm.kp h1 (thn (hk.run pos pins s1 σ H1 _ I1 q) fun ws s2 w2 => ?_) h3
  obtain ⟨zs, H2, I2, rz, l2, q2⟩ := w2
  refine ⟨I2.kIn, ?_⟩
  rw [h2]
  exact run_fnNS (us := [.ref a]) (vs := [.ref a]) F hr hb (hx σ) I2 (.cons rfl .nil) rz rfl l2 q2
end
/-- in an except suite: the suite's K is the def's (else the clause's own promise would speak of the suite) -/
theorem pe_bmQ {X : Cx} {K : PySem.W.Frag} {e : Expr} {r : PySem.W.Frag → TE} (h : PE X e (r X.K)) (hk : X.K = K) : PE X e (r K) := hk ▸ h
end Kw

/-! set(xs) of a list or a tuple of ints, as a set object. -/
namespace Si
open PySem PySem.Spec PyProof.Rows
section
variable {prog : Program} {w : World} {A : Around} {E : Value → Shared → Prop} {s : Shared}
theorem code_led1 (a : Value) {Q₁ : Value → Shared → Prop}
    (h : Q₁ (.ref s.heap.objs.size) { s with heap := s.heap.push { cls := .type "set", dict := none, data := .set #[] 0 (.fresh 0 0 (!w.params.followText "set-order")) } }) :
    codeAny (model prog w) A (.call (.builtin "set.__new__") ⟨[.type "set", a], []⟩) (wants Q₁ E) s := by
  refine codeAny_of_tree ?_
  show wpAny _ A.in1 (do checkBuiltinCall "set.__new__" ⟨[.type "set", a], []⟩; again (.builtin "set.__new__" ⟨[.type "set", a], []⟩)) _ _ s
  refine wpAny_bind (wpAny_of_eq (F.newCall_set_1 a) (wpAny_pure ⟨plainId_quiet F.plain_set_new _, codeAny_builtin F.entry_set_new ?_⟩))
  rw [Around.under_plainId F.plain_set_new _]
  unfold Builtin.«set.__new__» Builtin.Frozenset.newClass
  have hsub := sub_set_self
  obtain ⟨hp, g, d, tk, os⟩ := s
  dsimp only
  wp_walk
  refine wpAny_askSetting (wpAny_pure ?_)
  dsimp only
  simp only [newObj]
  refine wpAny_bind (wpAny_alloc (wpAny_pure ?_))
  exact wpAny_pure h
theorem ints_len : ∀ {vs : List Value} {xs : List Int}, IntsAre vs xs → vs.length = xs.length
  | _, _, .nil => rfl
  | _, _, .cons _ _ h => by rw [List.length_cons, List.length_cons, ints_len h]
theorem ints_at : ∀ {vs : List Value} {xs : List Int}, IntsAre vs xs → ∀ (i : Nat) v, vs[i]? = some v → ∃ x t, xs[i]? = some x ∧ v = .int x t
  | _, _, .nil, i, v, e => by simp at e
  | _, _, .cons x t h, 0, v, e => ⟨x, t, rfl, by simpa using e.symm⟩
  | _, _, .cons _ _ h, i + 1, v, e => by
    obtain ⟨x, t, e1, e2⟩ := ints_at h i v (by simpa using e)
    exact ⟨x, t, by simpa using e1, e2⟩
abbrev so (led : Bool) : Obj := { cls := .type "set", dict := none, data := .set #[] 0 (.fresh 0 0 led) }
theorem fill {R : Result → Shared → Prop} {I : Addr} {fp wr : List Addr} {G : Array GenState → Array GenState → Prop} {n : Nat} {P : Nat → Value → Prop} {St : Nat → Shared → Prop}
    (W : WalksS prog w A.in1 I fp wr G n P St) (S : Addr) (hSf : S ∉ fp) (xs : List Int) (hsz : xs.length = n) (hb : n + 1 < scanBound) (hval : ∀ i v, P i v → ∃ x t, xs[i]? = some x ∧ v = .int x t) :
    ∀ (k i : Nat) (s : Shared), n - i = k → i ≤ n → St i s → (∃ c, c ≤ i ∧ L2.SetR w s.heap S (fun y => decide (y ∈ xs.take i)) c) →
      (∀ s' c, Moved (S :: wr) G s s' → c ≤ n → L2.SetR w s'.heap S (fun y => decide (y ∈ xs.take n)) c → R (.ok (.ret .none)) s') →
      codeAny (model prog w) A (.builtin "set.update.loop" ⟨[.ref S, .ref I], []⟩) R s := by
  have nw : S ∉ wr := fun h => hSf (W.sub _ h)
  have more : ∀ b ∈ wr, b ∈ S :: wr := fun b hb => List.mem_cons_of_mem _ hb
  intro k
  induction k with
  | zero =>
    intro i s hk hi st ⟨c, hc, hS⟩ hR
    have e : i = n := by omega
    subst e
    refine codeAny_builtin PyProof.Rows.F.entry_set_update_loop ?_
    rw [Around.under_plainId PyProof.Rows.F.plain_set_update_loop _]
    show wpAny _ A.in1 (pyNext (.ref I) >>= _) _ _ s
    refine wpAny_bind (W.done s _ _ st fun s' hm => ?_)
    show wpAny _ A.in1 (ret Value.none) _ _ s'
    exact wpAny_pure (hR s' c (hm.mono more) hc (L2.SetR.at hS fun o e => hm.heap S o nw e))
  | succ k ih =>
    intro i s hk hi st ⟨c, hc, hS⟩ hR
    have lt : i < n := by omega
    refine codeAny_builtin PyProof.Rows.F.entry_set_update_loop ?_
    rw [Around.under_plainId PyProof.Rows.F.plain_set_update_loop _]
    show wpAny _ A.in1 (pyNext (.ref I) >>= _) _ _ s
    refine wpAny_bind (W.item i s _ _ lt st fun v s' hP st' hm => ?_)
    obtain ⟨x, t, hx, rfl⟩ := hval i v hP
    have hS1 := L2.SetR.at (h' := s'.heap) hS fun o e => hm.heap S o nw e
    show wpAny _ A.in1 (holding [Value.int x t] (setAdd S (.int x t)) >>= _) _ _ s'
    refine wpAny_bind (wpAny_holding ?_)
    unfold setAdd
    refine wpAny_holding ?_
    refine wpAny_bind ((PySem.intKind prog w).pyHash (k := x) (intKind_is _ _ _ _) ?_)
    refine L2.setR_add_hashed (s := { s' with toks := s'.toks + 1 }) hS1 (by omega) fun g same hS2 => ?_
    have hS3 := L2.SetR.congr (S' := fun y => decide (y ∈ xs.take (i + 1))) hS2 (fun y => by
      rw [List.take_add_one, hx]
      simp [List.mem_append])
    refine wpAny_pure ⟨plainId_quiet PyProof.Rows.F.plain_set_update_loop _, ih (i + 1) _ (by omega) lt (W.frame _ s' _ _ st' (Nat.le_succ _) fun b hb o e => ?_) ⟨_, (by split <;> omega), hS3⟩ fun s2 c2 m2 hc2 hS4 => ?_⟩
    · rw [same.2 b (fun h : b = S => hSf (by rw [← h]; exact hb))]
      exact e
    · refine hR s2 c2 (Moved.trans W.gtrans ((hm.mono more).then_heap (Nat.le_succ _) fun b o hb e => ?_) m2) hc2 hS4
      rw [same.2 b (fun h : b = S => hb (by rw [h]; exact List.mem_cons_self))]
      exact e
set_option maxHeartbeats 3200000 in
theorem set_ints {l : Addr} {its : Array Value} {xs : List Int} {Q : Value → Shared → Prop} (hh : A.handled = none) (hl : s.heap.IsList l its) (hi : PyProof.Rows.IntsAre its.toList xs) (hb : xs.length + 1 < scanBound)
    (q : ∀ (g : Heap) (tk c : Nat), c ≤ xs.length → L2.SetR w g s.heap.objs.size (fun y => decide (y ∈ xs)) c → (∀ b o, b < s.heap.objs.size → s.heap.get? b = some o → g.get? b = some o) → Q (.ref s.heap.objs.size) { s with heap := g, toks := tk }) :
    wpAny (model prog w) A (call (.type "set") [.ref l]) Q E s := by
  obtain ⟨c0, tl0, m0⟩ := PySem.F.called_set.mro
  have a1 := PySem.F.called_set.made
  have a2 := PySem.F.called_set.sub
  refine wpAny_call (codeAny_of_tree ?_)
  show wpAny _ _ (callAny (.type "set") _) _ _ _
  refine wpAny_pure ⟨Code.quiet_builtin _ (by decide +kernel), codeAny_builtin PySem.F.entry_type_call ?_⟩
  rw [Around.under_plain (weight_type_call_type "set" [.ref l] []) rfl]
  have a3 := PySem.F.called_set.notType
  have a4 := PySem.F.called_set.canCreate
  have a5 := PySem.F.typeCall_set_1 (.ref l)
  repeat (any_goals (first | assumption | wp_step))
  refine codeAny_mono (code_led1 (.ref l) (E := E) (Q₁ := fun ob s₁ => ob = .ref s.heap.objs.size ∧ s₁ = { s with heap := s.heap.push { cls := .type "set", dict := none, data := .set #[] 0 (.fresh 0 0 (!w.params.followText "set-order")) } }) ⟨rfl, rfl⟩) fun r s₁ hr => ?_
  cases r with
  | error e => exact hr
  | ok fl =>
    cases fl with
    | ret ob =>
      obtain ⟨rfl, rfl⟩ := hr
      generalize hso : ({ cls := .type "set", dict := none, data := .set #[] 0 (.fresh 0 0 (!w.params.followText "set-order")) } : Obj) = so
      have hfr : so.isFreed = false := by rw [← hso]; rfl
      have b1 : (s.heap.push so).get? s.heap.objs.size = some so := Heap.get?_push_size _ hfr
      have b2 : Shared.TypeIs { s with heap := s.heap.push so } (.ref s.heap.objs.size) "set" := ⟨_, b1, by rw [← hso]⟩
      have b3 := PySem.F.called_set.init.lookup
      have b4 := PySem.F.called_set.init.bind (.ref s.heap.objs.size)
      repeat (any_goals (first | assumption | wp_step))
      refine codeAny_mono (codeAny_call_builtin (R := wants (fun r s₂ => r = .none ∧ ∃ g tk c, s₂ = { s with heap := g, toks := tk } ∧ c ≤ xs.length ∧ L2.SetR w g s.heap.objs.size (fun y => decide (y ∈ xs)) c ∧
          (∀ b o, b < s.heap.objs.size → s.heap.get? b = some o → g.get? b = some o)) E) PySem.F.called_set.init.plain PySem.F.entry_set_init (check_set_init_1 b2 ?_)) fun r₂ s₂ hr₂ => ?_
      · obtain ⟨ol, hol, hcl, nl, hdl⟩ := hl
        obtain ⟨ocls, odict, odata, oslots⟩ := ol
        simp only at hcl hdl
        subst hcl hdl
        have hol' : (s.heap.push so).get? l = some { cls := .type "list", dict := odict, data := .seq its nl, slots := oslots } := Heap.get?_push_of_some _ hol
        have c1 := PySem.F.sub_list_set
        have c2 := PySem.F.sub_list_frozenset
        have c3 : (Value.type "list" == Value.type "dict") = false := by decide
        have hl1 : (s.heap.push so).IsList l its := ⟨_, hol', rfl, nl, rfl⟩
        unfold Builtin.«set.__init__» noKeywords Builtin.Frozenset.updateFrom
        generalize hPI : pyIter = PI
        have ll : l < s.heap.objs.size := Heap.lt_size hol
        have nI : ∀ ob : Obj, l ≠ (s.heap.push ob).objs.size := fun ob => by
          rw [Heap.size_push]
          exact Nat.ne_of_lt (Nat.lt_succ_of_lt ll)
        have nS : ∀ ob : Obj, s.heap.objs.size ∉ [(s.heap.push ob).objs.size, l] := fun ob => by
          rw [Heap.size_push]
          simp only [List.mem_cons, List.mem_singleton, List.not_mem_nil, or_false, not_or]
          exact ⟨Nat.ne_of_lt (Nat.lt_succ_self _), Nat.ne_of_gt ll⟩
        have nB : ∀ (ob : Obj) (b : Addr), b < s.heap.objs.size → b ≠ (s.heap.push ob).objs.size := fun ob b lb => by
          rw [Heap.size_push]
          exact Nat.ne_of_lt (Nat.lt_succ_of_lt lb)
        subst hso
        wp_walk
        subst hPI
        refine wpAny_pyIter_list hl1 ?_
        refine wpAny_bind (wpAny_runValue ?_)
        have hh3 : A.in1.in1.in1.handled = none := by simp [hh]
        have sz : xs.length = its.size := by rw [← ints_len hi, Array.length_toList]
        have hval : ∀ (i : Nat) (v : Value), its[i]? = some v → ∃ x t, xs[i]? = some x ∧ v = .int x t := fun i v hv => ints_at hi i v (by rw [Array.getElem?_toList]; exact hv)
        refine fill ((Walks.list hh3 _ l (nI (so (!w.params.followText "set-order"))) its).toS) s.heap.objs.size (nS (so (!w.params.followText "set-order"))) xs sz (by rw [← sz]; exact hb) hval (its.size - 0) 0 _ (by omega) (Nat.zero_le _)
          ⟨⟨_, Heap.get?_push_size _ rfl, rfl, rfl⟩, (hl1.push _)⟩ ?hS0 ?hR
        case hS0 =>
          exact ⟨0, Nat.le_refl _, L2.SetR.congr (L2.SetR.at (L2.setR_fresh w) fun o e => Heap.get?_push_of_some _ e) (fun _ => by simp)⟩
        case hR =>
          intro s' c' hm hc' hS'
          obtain ⟨g, g', d', tk', os'⟩ := s'
          have eg : g' = s.gens := hm.gens
          have ed : d' = s.drawn := hm.drawn
          have eo : os' = s.os := hm.os
          subst eg ed eo
          show wpAny _ _ _ _ _ _
          refine wpAny_pure ?_
          show wpAny _ _ (ret Value.none) _ _ _
          rw [← sz, List.take_length] at hS'
          rw [← sz] at hc'
          refine wpAny_pure ⟨rfl, g, tk', c', rfl, hc', hS', fun b o lb e => ?_⟩
          have n1 : b ≠ s.heap.objs.size := Nat.ne_of_lt lb
          have n2 := nB (so (!w.params.followText "set-order")) b lb
          exact hm.heap b o (by simp only [List.mem_cons, List.mem_singleton, List.not_mem_nil, or_false, not_or]; exact ⟨n1, n2⟩) (Heap.get?_push_of_some _ (Heap.get?_push_of_some _ e))
      · cases r₂ with
        | error e => exact hr₂
        | ok fl₂ =>
          cases fl₂ with
          | ret r =>
            obtain ⟨rfl, g, tk, c', rfl, hc', hS', hk'⟩ := hr₂
            repeat (any_goals (first | assumption | wp_step))
            exact q _ _ _ hc' hS' hk'
          | _ => exact hr₂.elim
    | _ => exact hr.elim
set_option maxHeartbeats 3200000 in
theorem set_intsT {l : Addr} {its : Array Value} {xs : List Int} {Q : Value → Shared → Prop} (hh : A.handled = none) (hl : s.heap.IsTuple l its) (hi : PyProof.Rows.IntsAre its.toList xs) (hb : xs.length + 1 < scanBound)
    (q : ∀ (g : Heap) (tk c : Nat), c ≤ xs.length → L2.SetR w g s.heap.objs.size (fun y => decide (y ∈ xs)) c → (∀ b o, b < s.heap.objs.size → s.heap.get? b = some o → g.get? b = some o) → Q (.ref s.heap.objs.size) { s with heap := g, toks := tk }) :
    wpAny (model prog w) A (call (.type "set") [.ref l]) Q E s := by
  obtain ⟨c0, tl0, m0⟩ := PySem.F.called_set.mro
  have a1 := PySem.F.called_set.made
  have a2 := PySem.F.called_set.sub
  refine wpAny_call (codeAny_of_tree ?_)
  show wpAny _ _ (callAny (.type "set") _) _ _ _
  refine wpAny_pure ⟨Code.quiet_builtin _ (by decide +kernel), codeAny_builtin PySem.F.entry_type_call ?_⟩
  rw [Around.under_plain (weight_type_call_type "set" [.ref l] []) rfl]
  have a3 := PySem.F.called_set.notType
  have a4 := PySem.F.called_set.canCreate
  have a5 := PySem.F.typeCall_set_1 (.ref l)
  repeat (any_goals (first | assumption | wp_step))
  refine codeAny_mono (code_led1 (.ref l) (E := E) (Q₁ := fun ob s₁ => ob = .ref s.heap.objs.size ∧ s₁ = { s with heap := s.heap.push { cls := .type "set", dict := none, data := .set #[] 0 (.fresh 0 0 (!w.params.followText "set-order")) } }) ⟨rfl, rfl⟩) fun r s₁ hr => ?_
  cases r with
  | error e => exact hr
  | ok fl =>
    cases fl with
    | ret ob =>
      obtain ⟨rfl, rfl⟩ := hr
      generalize hso : ({ cls := .type "set", dict := none, data := .set #[] 0 (.fresh 0 0 (!w.params.followText "set-order")) } : Obj) = so
      have hfr : so.isFreed = false := by rw [← hso]; rfl
      have b1 : (s.heap.push so).get? s.heap.objs.size = some so := Heap.get?_push_size _ hfr
      have b2 : Shared.TypeIs { s with heap := s.heap.push so } (.ref s.heap.objs.size) "set" := ⟨_, b1, by rw [← hso]⟩
      have b3 := PySem.F.called_set.init.lookup
      have b4 := PySem.F.called_set.init.bind (.ref s.heap.objs.size)
      repeat (any_goals (first | assumption | wp_step))
      refine codeAny_mono (codeAny_call_builtin (R := wants (fun r s₂ => r = .none ∧ ∃ g tk c, s₂ = { s with heap := g, toks := tk } ∧ c ≤ xs.length ∧ L2.SetR w g s.heap.objs.size (fun y => decide (y ∈ xs)) c ∧
          (∀ b o, b < s.heap.objs.size → s.heap.get? b = some o → g.get? b = some o)) E) PySem.F.called_set.init.plain PySem.F.entry_set_init (check_set_init_1 b2 ?_)) fun r₂ s₂ hr₂ => ?_
      · obtain ⟨ol, hol, hcl, nl, hdl⟩ := hl
        obtain ⟨ocls, odict, odata, oslots⟩ := ol
        simp only at hcl hdl
        subst hcl hdl
        have hol' : (s.heap.push so).get? l = some { cls := .type "tuple", dict := odict, data := .seq its nl, slots := oslots } := Heap.get?_push_of_some _ hol
        have c1 := PySem.F.sub_tuple_set
        have c2 := PySem.F.sub_tuple_frozenset
        have c3 : (Value.type "tuple" == Value.type "dict") = false := by decide
        have hl1 : (s.heap.push so).IsTuple l its := ⟨_, hol', rfl, nl, rfl⟩
        unfold Builtin.«set.__init__» noKeywords Builtin.Frozenset.updateFrom
        generalize hPI : pyIter = PI
        have ll : l < s.heap.objs.size := Heap.lt_size hol
        have nI : ∀ ob : Obj, l ≠ (s.heap.push ob).objs.size := fun ob => by
          rw [Heap.size_push]
          exact Nat.ne_of_lt (Nat.lt_succ_of_lt ll)
        have nS : ∀ ob : Obj, s.heap.objs.size ∉ [(s.heap.push ob).objs.size, l] := fun ob => by
          rw [Heap.size_push]
          simp only [List.mem_cons, List.mem_singleton, List.not_mem_nil, or_false, not_or]
          exact ⟨Nat.ne_of_lt (Nat.lt_succ_self _), Nat.ne_of_gt ll⟩
        have nB : ∀ (ob : Obj) (b : Addr), b < s.heap.objs.size → b ≠ (s.heap.push ob).objs.size := fun ob b lb => by
          rw [Heap.size_push]
          exact Nat.ne_of_lt (Nat.lt_succ_of_lt lb)
        subst hso
        wp_walk
        subst hPI
        refine wpAny_pyIter_tuple hl1 ?_
        refine wpAny_bind (wpAny_runValue ?_)
        have hh3 : A.in1.in1.in1.handled = none := by simp [hh]
        have sz : xs.length = its.size := by rw [← ints_len hi, Array.length_toList]
        have hval : ∀ (i : Nat) (v : Value), its[i]? = some v → ∃ x t, xs[i]? = some x ∧ v = .int x t := fun i v hv => ints_at hi i v (by rw [Array.getElem?_toList]; exact hv)
        refine fill ((Walks.tuple hh3 _ l (nI (so (!w.params.followText "set-order"))) its).toS) s.heap.objs.size (nS (so (!w.params.followText "set-order"))) xs sz (by rw [← sz]; exact hb) hval (its.size - 0) 0 _ (by omega) (Nat.zero_le _)
          ⟨⟨_, Heap.get?_push_size _ rfl, rfl, rfl⟩, (hl1.push _)⟩ ?hS0 ?hR
        case hS0 =>
          exact ⟨0, Nat.le_refl _, L2.SetR.congr (L2.SetR.at (L2.setR_fresh w) fun o e => Heap.get?_push_of_some _ e) (fun _ => by simp)⟩
        case hR =>
          intro s' c' hm hc' hS'
          obtain ⟨g, g', d', tk', os'⟩ := s'
          have eg : g' = s.gens := hm.gens
          have ed : d' = s.drawn := hm.drawn
          have eo : os' = s.os := hm.os
          subst eg ed eo
          show wpAny _ _ _ _ _ _
          refine wpAny_pure ?_
          show wpAny _ _ (ret Value.none) _ _ _
          rw [← sz, List.take_length] at hS'
          rw [← sz] at hc'
          refine wpAny_pure ⟨rfl, g, tk', c', rfl, hc', hS', fun b o lb e => ?_⟩
          have n1 : b ≠ s.heap.objs.size := Nat.ne_of_lt lb
          have n2 := nB (so (!w.params.followText "set-order")) b lb
          exact hm.heap b o (by simp only [List.mem_cons, List.mem_singleton, List.not_mem_nil, or_false, not_or]; exact ⟨n1, n2⟩) (Heap.get?_push_of_some _ (Heap.get?_push_of_some _ e))
      · cases r₂ with
        | error e => exact hr₂
        | ok fl₂ =>
          cases fl₂ with
          | ret r =>
            obtain ⟨rfl, g, tk, c', rfl, hc', hS', hk'⟩ := hr₂
            repeat (any_goals (first | assumption | wp_step))
            exact q _ _ _ hc' hS' hk'
          | _ => exact hr₂.elim
    | _ => exact hr.elim
end
end Si
namespace Si
open PySem PySem.Spec PyProof.Rows L2
section
variable {X : Cx}
theorem intsAre : ∀ {ns : List Int} {us : List Value}, Vals (ns.map V.int) us → IntsAre us ns
  | [], _, .nil => .nil
  | n :: ns, _, .cons r rt => by
    obtain ⟨t, rfl⟩ := r
    exact .cons n t (intsAre rt)
/-- set(xs), xs a list or a tuple of ints -/
def rSet (K : PySem.W.Frag) (w : World) : List V → Hp → VK → Prop := fun xs H Q => ∃ (p : Addr) (ns : List Int), xs = [.ref p] ∧ (SqL K H p (ns.map V.int) ∨ SqT K H p (ns.map V.int)) ∧ ns.length ≤ 4000 ∧
  ∀ S c, c ≤ ns.length → H S = none → Q (.ref S) (upd H S (SetO w S (fun y => decide (y ∈ ns)) c))
theorem call_set (hc : X.calm = true) : CallR X (.type "set") (rSet X.K X.w) := by
  intro pins s σ H xs us Q I r h
  obtain ⟨p, ns, rfl, hq, hl, k⟩ := h
  obtain ⟨u, rfl, ru⟩ := r.one
  cases (show u = Value.ref p from ru)
  rcases hq with hq | hq
  · obtain ⟨its, r, pl, hz⟩ := I.list hq
    refine set_ints (I.ok.hd hc) pl.isList (by simpa using intsAre r) (by unfold scanBound; omega) fun g tk c hcn hS hk => ?_
    exact ⟨.ref _, _, I.laid (t' := tk) (fun b u e => hk b u (Heap.lt_size e) e) (Nat.le_refl _) (setO_new hS), rfl, k _ c hcn (I.hok.fresh (Nat.le_refl _))⟩
  · obtain ⟨its, r, pl, hz⟩ := I.tuple hq
    refine set_intsT (I.ok.hd hc) pl (by simpa using intsAre r) (by unfold scanBound; omega) fun g tk c hcn hS hk => ?_
    exact ⟨.ref _, _, I.laid (t' := tk) (fun b u e => hk b u (Heap.lt_size e) e) (Nat.le_refl _) (setO_new hS), rfl, k _ c hcn (I.hok.fresh (Nat.le_refl _))⟩
end
end Si

/-! len of a set of ints whose members are told by a list. -/
namespace Lns
open PySem PySem.Spec PyProof.Rows L2
theorem nodup_le : ∀ {l m : List Int}, l.Nodup → (∀ k ∈ l, k ∈ m) → l.length ≤ m.length
  | [], m, _, _ => Nat.zero_le _
  | x :: l, m, nd, h => by
    rw [List.nodup_cons] at nd
    have mx := h x List.mem_cons_self
    have ih := nodup_le (m := m.erase x) nd.2 fun k hk => (List.mem_erase_of_ne (by intro e; rw [e] at hk; exact nd.1 hk)).mpr (h k (List.mem_cons_of_mem _ hk))
    rw [List.length_erase_of_mem mx] at ih
    have := List.length_pos_of_mem mx
    rw [List.length_cons]
    omega
def rLenN (w : World) : List V → Hp → VK → Prop := fun xs H Q => ∃ a S n, ∃ L : List Int, xs = [V.ref a] ∧ H a = some (SetO w a S n) ∧ n ≤ 4000 ∧ L.Nodup ∧ (∀ k, S k = true ↔ k ∈ L) ∧ Q (.int (L.length : Nat)) H
theorem call_lenN {X : Cx} : CallR X (.builtin "len") (rLenN X.w) := by
  intro pins s σ H xs us Q I r h
  obtain ⟨a, S, n, L, rfl, ha, hn, nd, hS, k⟩ := h
  obtain ⟨u, rfl, ru⟩ := r.one
  cases (show u = Value.ref a from ru)
  obtain ⟨o, es, ep, t, ho, hx, hd, g, knd, mem, bd, fit, num, _⟩ := setO_get I ha
  have el : es.size = L.length := by
    have e1 : (es.toList.map keyOf).length = es.size := by rw [List.length_map, Array.length_toList]
    have a1 := nodup_le (m := L) knd fun k hk => (hS k).mp ((mem k).mpr hk)
    have a2 := nodup_le (m := es.toList.map keyOf) nd fun k hk => (mem k).mp ((hS k).mpr hk)
    omega
  refine call_len_set ho hx hd fit (by omega) ?_
  rw [el]
  exact ⟨.int L.length, H, (I.tok _).tok _, ⟨_, rfl⟩, k⟩
end Lns

/-! A list comprehension whose new list is told to be off sys.modules. -/
namespace Dz
open PySem PySem.Spec PyProof.Rows L2 Dv
section
variable {X : Cx}
def tLcZ (wi : TI) (g : TG) (tt : TT) (te : TE) (vs : List Nat) : TE := fun σ H Q => wi σ H fun J H1 => ∀ D, D ≠ sysModules → H1 D = none → ∃ W : Nat → Nat → Hp → Prop, (∃ m, W 0 m (upd H1 D (.lst []))) ∧ ∀ i m H, W i m H →
  (J.stop i H ∧ Q (.ref D) H) ∨ (J.go i H ∧ ∃ Nx : Hp → Prop, (∀ H', Nx H' → ∃ m', m' < m ∧ W (i + 1) m' H') ∧ ∀ x H', J.yld i H x H' → g x (wipe σ vs) H' fun σ2 H2 => wipe σ2 vs = wipe σ vs ∧ tt σ2 H2 fun b H3 =>
    if b = true then te σ2 H3 fun z H5 => ∃ acc, H5 D = some (.lst acc) ∧ acc.length < sizeLine ∧ Nx (upd H5 D (.lst (acc ++ [z]))) else Nx H3)
theorem lcZ_core {pins : List (Addr × Obj)} {t0 : Shared} {σ : L2.St} {G : Hp} {Q : VK} {pos2 : Pos} {use : Option (Value → Sem Unit)} {Qf : Value → Shared → Prop} {elt tg iter : Expr} {ifs : List Expr} {scope : Scope} {own : List (Str × Nat)} {pos : Pos} {wi : TI} {g : TG} {tt : TT} {te : TE} (calm : X.calm = true) (nodup : X.N.Nodup) (hi : PI X tg iter wi) (ok : BlkOk X.N X.env.scope scope own)
    (pg0 : ∀ (s : Shared) (H : Hp) (C : Addr) (cl : List (Str × Addr)) (fp : List Addr), PG (X.blk s H scope (compEnvC scope cl C X.env) fp) tg g) (pt0 : ∀ (s : Shared) (H : Hp) (C : Addr) (cl : List (Str × Addr)) (fp : List Addr), PTs (X.blk s H scope (compEnvC scope cl C X.env) fp) ifs tt)
    (pv0 : ∀ (s : Shared) (H : Hp) (C : Addr) (cl : List (Str × Addr)) (fp : List Addr), PE (X.blk s H scope (compEnvC scope cl C X.env) fp) elt te)
    (folded : ∀ x, foldedSetIterable iter X.env x = pure x) (I0 : Inv X pins σ G t0) (h : tLcZ wi g tt te (own.map (·.2)) σ G Q)
    (out : ∀ D C t9 m G9, Inv X pins σ G9 t9 → Q (.ref D) G9 → t9.heap.Ns C m → FpOk X pins G9 C → compPost (model X.prog X.w) X.A X.xe use Qf (.ref D) C (.ok .next) t9) :
    wpAny (model X.prog X.w) X.A (comprehension (.ListComp elt [⟨tg, iter, ifs, 0⟩] scope pos) scope X.env pos2 (newList []) false (eval iter X.env) use) Qf X.xe t0 := by
  have free : ∀ y ∈ scope.names, y.2 = .free → ∃ c, X.env.cells.lookup y.1 = some c := fun y hy e => by
    cases ok.free y hy e with
    | inl k => exact I0.ok.has _ (.inl k)
    | inr k => exact I0.ok.has _ (.inr k)
  refine wpAny_comprehension_free (use := use) rfl folded (closure_ok free) ok.kind (fun y hy e => by rw [ok.uniq y hy, e]) (thn (hi.run pins t0 σ G _ I0 h) fun xv t1 hx => thn hx fun itv t2 h2 => ?_)
  obtain ⟨it, fp, tn, J, G2, eit, I2, T, st2, f2, q⟩ := h2
  subst eit
  refine wpAny_newObj_type (newEnv_comp ?_) (by show 0 ≤ sizeLine; decide)
  generalize eD : t2.heap.objs.size = D
  have hDn : G2 D = none := I2.hok.fresh (Nat.le_of_eq eD)
  obtain ⟨W, ⟨m0, w0⟩, turn⟩ := q D (by rw [← eD]; exact Nat.ne_of_gt I2.big) hDn
  generalize e3 : ({ t2 with heap := t2.heap.push { cls := .type "list", data := .seq ([] : List Value).toArray } } : Shared) = t3
  have I3 : Inv X pins σ (upd G2 D (.lst [])) t3 := by
    subst e3
    refine I2.laid (t' := t2.toks) (fun b o e => Heap.get?_push_of_some _ e) (Nat.le_of_eq eD) ?_
    subst eD
    exact ⟨Nat.zero_le _, [], 0, .nil, Heap.get?_push_size _ rfl⟩
  have hp3 : t3.heap = t2.heap.push { cls := .type "list", data := .seq ([] : List Value).toArray } := by subst e3; rfl
  have below : ∀ b ∈ fp, b < t2.heap.objs.size := fun b hb => let ⟨o, e, _⟩ := T.obj _ _ st2 b hb; Heap.lt_size e
  have f3 : ∀ b ∈ fp, FpOk X pins (upd G2 D (.lst [])) b ∧ b < t3.heap.objs.size := fun b hb => by
    have lt := below b hb
    refine ⟨⟨?_, (f2 b hb).2⟩, by rw [hp3, Heap.size_push]; exact Nat.lt_succ_of_lt lt⟩
    rw [upd_ne (Nat.ne_of_lt (by rw [← eD]; exact lt))]
    exact (f2 b hb).1
  have st3 : tn 0 t3.heap := T.keep _ _ _ st2 fun b _ o e => by rw [hp3]; exact Heap.get?_push_of_some _ e
  have I4 := block_start I3 ok nodup f3
  have pg := pg0 t3 (upd G2 D (.lst [])) t3.heap.objs.size (cellsFrom (t3.heap.objs.size + 1) scope.names (cloFrom X.env.cells scope.names [])) fp
  have pt := pt0 t3 (upd G2 D (.lst [])) t3.heap.objs.size (cellsFrom (t3.heap.objs.size + 1) scope.names (cloFrom X.env.cells scope.names [])) fp
  have pe := pv0 t3 (upd G2 D (.lst [])) t3.heap.objs.size (cellsFrom (t3.heap.objs.size + 1) scope.names (cloFrom X.env.cells scope.names [])) fp
  have none3 : ∀ b ∈ fp, (upd G2 D (.lst [])) b = none := fun b hb => (f3 b hb).1.1
  show codeAny _ _ (.compStart (.ListComp elt [⟨tg, iter, ifs, 0⟩] scope pos) 0 (.ref it) (.ref D) (compEnvC scope (cellsFrom (t3.heap.objs.size + 1) scope.names (cloFrom X.env.cells scope.names [])) t3.heap.objs.size X.env)) (compPost (model X.prog X.w) X.A X.xe use Qf (.ref D) t3.heap.objs.size) _
  generalize ece : compEnvC scope (cellsFrom (t3.heap.objs.size + 1) scope.names (cloFrom X.env.cells scope.names [])) t3.heap.objs.size X.env = ce at I4 pg pt pe ⊢
  have locs : ce.locals = t3.heap.objs.size := by subst ece; rfl
  generalize eG3 : upd G2 D (.lst []) = G3 at I3 I4 pg pt pe w0 none3 f3
  generalize e4 : ({ t3 with heap := pushCells (t3.heap.push { cls := .type "dict", data := .dict #[] }) scope.names } : Shared) = t4 at I4 ⊢
  have st4 : tn 0 t4.heap := T.keep _ _ _ st3 fun b _ o e => by subst e4; exact pushCells_keeps _ _ _ _ (Heap.get?_push_of_some _ e)
  have apart : ∀ {σ' : L2.St} {G' : Hp} {t' : Shared}, Inv (X.blk t3 G3 scope ce fp) [] σ' G' t' → (∀ b ∈ fp, G' b = none) → ∀ b ∈ fp, FpOk (X.blk t3 G3 scope ce fp) [] G' b := fun {σ' G' t'} I' hn b hb =>
    ⟨hn b hb, (I'.ok.exf b hb).1, I'.ok.exfs b hb, .inl hb, fun x c e => (I'.ok.exf b hb).2 x c e, fun p hp => absurd (show p ∈ ([] : List (Addr × Obj)) ++ [] from hp) (by simp)⟩
  refine codeAny_compStart_list ?_ (T.self X.A 0 _ _ _ st4 ?_)
  all_goals
    refine compLoop_any (fun n t' => ∃ i G', Inv (X.blk t3 G3 scope ce fp) [] (wipe σ (own.map (·.2))) G' t' ∧ tn i t'.heap ∧ (∀ b ∈ fp, G' b = none) ∧ W i n G') ?_ m0 ⟨0, G3, I4, st4, none3, w0⟩
    rintro n t5 ⟨i, G5, I5, st5, n5, w5⟩
    rcases turn i n G5 w5 with ⟨stop, qq⟩ | ⟨go, Nx, hNx, step⟩
    · refine thnF (T.done (X.blk t3 G3 scope ce fp) rfl rfl rfl calm i [] t5 _ G5 (fun _ _ => False) I5 (apart I5 n5) st5 stop) fun r t6 ⟨hr, I6⟩ => ?_
      subst hr
      have I7 : Inv X pins σ G5 t6 := I3.call' (ch := fp) I6.os I6.base I6.hok I6.bare fun b hb => ⟨(f3 b hb).1.2.2.2.1, (f3 b hb).1.2.1, (f3 b hb).1.2.2.2.2.1, (f3 b hb).1.2.2.2.2.2⟩
      have nC : G5 t3.heap.objs.size = none := by
        have z : G5 ce.locals = none := I6.free
        rwa [locs] at z
      obtain ⟨m, hn, _⟩ := I6.loc
      have hn : t6.heap.Ns ce.locals m := hn
      rw [locs] at hn
      exact out D _ _ m G5 I7 qq hn (I3.fpOk (Nat.le_refl _) nC)
    · refine thnF (T.item (X.blk t3 G3 scope ce fp) rfl rfl rfl calm i [] t5 _ G5 (fun _ _ => False) I5 (apart I5 n5) st5 go) fun r t6 ⟨u, hr, h6⟩ => ?_
      subst hr
      refine thnF h6 fun _ t7 ⟨x, G7, I7, r7, y7, st7, n7⟩ => ?_
      have I7' := I7.pinned (apart I7 n7) (T.obj _ _ st7)
      refine thnF (pg.run _ t7 _ G7 x u _ I7' r7 (step x G7 y7)) fun _ t8 ⟨σ8, G8, I8, hw8, q8⟩ => ?_
      refine thnF (pt.run _ t8 σ8 G8 _ I8 q8) fun b t9 ⟨G9, I9, q9⟩ => ?_
      have fin : ∀ {t' : Shared} {G' : Hp}, Inv (X.blk t3 G3 scope ce fp) ([] ++ pinsAt fp t7.heap) σ8 G' t' → Nx G' → ∃ m, m < n ∧ ∃ i G', Inv (X.blk t3 G3 scope ce fp) [] (wipe σ (own.map (·.2))) G' t' ∧ tn i t'.heap ∧ (∀ b ∈ fp, G' b = none) ∧ W i m G' := by
        intro t' G' I' nx
        obtain ⟨m', hm, w'⟩ := hNx G' nx
        have pin' : ∀ b ∈ fp, ∀ o, t7.heap.get? b = some o → t'.heap.get? b = some o ∧ G' b = none := fun b hb o e => let z := I'.pin (b, o) (List.mem_append_right _ (List.mem_append_right _ (mem_pinsAt hb e))); ⟨z.1, z.2.1⟩
        have wl : (wipe σ (own.map (·.2))).length = σ8.length := by rw [← hw8, wipe_length]
        refine ⟨m', hm, i + 1, G', (I'.unpinned (pins := [])).weak wl (fun j v e => ?_), T.keep _ _ _ st7 fun b hb o e => (pin' b hb o e).1, fun b hb => ?_, w'⟩
        · rw [← hw8] at e
          exact (wipe_some e).1
        · obtain ⟨o, e, _⟩ := T.obj _ _ st7 b hb
          exact (pin' b hb o e).2
      cases b with
      | false => exact fin I9 q9
      | true =>
        refine thnF (pe.run _ t9 σ8 G9 _ I9 q9) fun z2 t11 ⟨yv, G11, I11, r11, acc, hDacc, l11, nx⟩ => ?_
        exact app_ok (X := X.blk t3 G3 scope ce fp) I11 hDacc l11 r11 fun t12 I12 => fin I12 nx
theorem pe_lcZ {elt tg iter : Expr} {ifs : List Expr} {scope : Scope} {own : List (Str × Nat)} {pos : Pos} {wi : TI} {g : TG} {tt : TT} {te : TE} (calm : X.calm = true) (nodup : X.N.Nodup) (hi : PI X tg iter wi) (ok : BlkOk X.N X.env.scope scope own)
    (pg0 : ∀ (s : Shared) (H : Hp) (C : Addr) (cl : List (Str × Addr)) (fp : List Addr), PG (X.blk s H scope (compEnvC scope cl C X.env) fp) tg g) (pt0 : ∀ (s : Shared) (H : Hp) (C : Addr) (cl : List (Str × Addr)) (fp : List Addr), PTs (X.blk s H scope (compEnvC scope cl C X.env) fp) ifs tt)
    (pv0 : ∀ (s : Shared) (H : Hp) (C : Addr) (cl : List (Str × Addr)) (fp : List Addr), PE (X.blk s H scope (compEnvC scope cl C X.env) fp) elt te)
    (folded : ∀ x, foldedSetIterable iter X.env x = pure x := by intro _; rfl) : PE X (.ListComp elt [⟨tg, iter, ifs, 0⟩] scope pos) (tLcZ wi g tt te (own.map (·.2))) := by
  constructor
  intro pins t0 σ G Q I0 h
  rw [eval_ListComp]
  refine lcZ_core calm nodup hi ok pg0 pt0 pv0 folded I0 h fun D C t9 m G9 I9 q hn f => ⟨m, hn, fun h2 sb => ?_⟩
  obtain ⟨g0, g1, g2, g3, g4, g5⟩ := f
  exact ⟨.ref D, G9, I9.turned (t' := t9.toks) (fun b o hb e => (sb.2 b hb).trans e) g0 g1 g3 g4 g5, rfl, q⟩
/-- y = {k: v for x in xs}, y a plain local name on one line with it -/
theorem ps_setLcZ {i : Nat} {y : Str} {py spos : Pos} {elt tg iter : Expr} {ifs : List Expr} {scope : Scope} {own : List (Str × Nat)} {pos : Pos} {wi : TI} {g : TG} {tt : TT} {te : TE} (hy : X.N[i]? = some y) (hyl : X.env.scope.names.lookup y = some .local) (sw : swapsWith (.ListComp elt [⟨tg, iter, ifs, 0⟩] scope pos) (some (.Name y py)) spos.line X.env = pure true) (calm : X.calm = true) (nodup : X.N.Nodup) (hi : PI X tg iter wi) (ok : BlkOk X.N X.env.scope scope own)
    (pg0 : ∀ (s : Shared) (H : Hp) (C : Addr) (cl : List (Str × Addr)) (fp : List Addr), PG (X.blk s H scope (compEnvC scope cl C X.env) fp) tg g) (pt0 : ∀ (s : Shared) (H : Hp) (C : Addr) (cl : List (Str × Addr)) (fp : List Addr), PTs (X.blk s H scope (compEnvC scope cl C X.env) fp) ifs tt)
    (pv0 : ∀ (s : Shared) (H : Hp) (C : Addr) (cl : List (Str × Addr)) (fp : List Addr), PE (X.blk s H scope (compEnvC scope cl C X.env) fp) elt te)
    (folded : ∀ x, foldedSetIterable iter X.env x = pure x := by intro _; rfl) : PS X (.Assign [.Name y py] (.ListComp elt [⟨tg, iter, ifs, 0⟩] scope pos) spos) (tAsg (tLcZ wi g tt te (own.map (·.2))) (gName i)) := by
  constructor
  intro pins t0 σ G D0 I0 h
  rw [exec_Assign_Name_used _ _ _ _ sw]
  refine wpAny_bind (wpAny_standAt (wpAny_bind ?_))
  show wpAny _ X.A (do let _ ← comprehension (.ListComp elt [⟨tg, iter, ifs, 0⟩] scope pos) scope X.env (firstIterPos [⟨tg, iter, ifs, 0⟩] pos) (newList []) false (eval iter X.env) (some (assign (.Name y py) X.env))) _ _ t0
  have h : tLcZ wi g tt te (own.map (·.2)) σ G (fun x G1 => gName i x σ G1 D0.nx) := h
  refine wpAny_bind (thn (lcZ_core (Qf := fun _ t9 => SP X pins D0 .next t9) calm nodup hi ok pg0 pt0 pv0 folded I0 h fun D C t9 m G9 I9 q hn f => ?_) fun _ t9 hq => wpAny_pure (wpAny_pure hq))
  show wpAny _ _ (assign (.Name y py) X.env (.ref D)) _ _ _
  refine wpAny_assign_Name (store_ok2 (v := V.ref D) I9 nodup hy (.inl hyl) rfl (fun t2 I2 ⟨a, sb, ha⟩ => ?_) (.inr hyl))
  obtain ⟨g0, g1, g2, g3, g4, g5⟩ := f
  have ca : C ≠ a := by
    cases ha with
    | inl z => rw [z]; exact g1
    | inr z => exact fun e => g4 y a z e.symm
  refine ⟨m, hn.sameBut sb ca, fun h3 sb3 => ?_⟩
  exact ⟨_, G9, I2.turned (t' := t2.toks) (fun b o hb e => (sb3.2 b hb).trans e) g0 g1 g3 g4 g5, q⟩
/-- {} off sys.modules -/
def tDnewZ : TE := fun _ H Q => ∀ p, p ≠ sysModules → H p = none → Q (.ref p) (upd H p (.dK []))
theorem pe_dnewZ {pos : Pos} : PE X (.Dict [] [] pos) tDnewZ := by
  constructor
  intro pins t σ G Q I h
  refine wpAny_Dict_empty ?_
  exact ⟨.ref t.heap.objs.size, _, I.laid (a := t.heap.objs.size) (t' := t.toks) (fun _ _ e => Heap.get?_push_of_some _ e) (Nat.le_refl _) (dk_empty t.heap I.big), rfl, h _ (Nat.ne_of_gt I.big) (I.hok.fresh (Nat.le_refl _))⟩
/-- xs[i], one of two readings -/
def rIxLT (K : PySem.W.Frag) : R2 := fun x y H Q => rIxL K x y H Q ∨ rIxT K x y H Q
theorem ix_lt : IxR X (rIxLT X.K) := by
  intro value slice pins s σ H x y v u Q I rx ry h e
  rcases h with h | h
  · exact ix_list value slice pins s σ H x y v u Q I rx ry h e
  · exact ix_tup value slice pins s σ H x y v u Q I rx ry h e
/-- a target, one of two readings -/
theorem pg_or {t : Expr} {g1 g2 : TG} (a : PG X t g1) (b : PG X t g2) : PG X t (fun v σ H k => g1 v σ H k ∨ g2 v σ H k) := by
  constructor
  intro pins s σ H v u Q I r h
  rcases h with h | h
  · exact a.run pins s σ H v u Q I r h
  · exact b.run pins s σ H v u Q I r h
/-- a tuple of targets, for a tuple or a list -/
def gTL (K : PySem.W.Frag) (n : Nat) (t : TGs) : TG := fun v σ H k => gTup K n t v σ H k ∨ gLst K n t v σ H k
theorem pg_tl {es : List Expr} {c : Nat} {pos : Pos} {t : TGs} {n : Nat} (hc : X.calm = true) (h : PGs X es t) (hn : (assignEach es X.env).length = n := by rfl) (hst : (assignEach es X.env).findIdx? (·.1) = none := by rfl) : PG X (.Tuple es c pos) (gTL X.K n t) := pg_or (pg_tup hc h hn hst) (pg_lst hc h hn hst)
end
end Dz

/-! A dict display of ints and texts, laid off sys.modules. -/
namespace Dz
open PySem PySem.Spec PyProof.Rows L2
def tDispZ (trs : List (TE × TE)) : TE := fun σ H Q => ∀ D, D ≠ sysModules → H D = none → tPairs trs σ (upd H D (.dK [])) fun ps A => A D = some (.dK []) ∧ ∃ es : List (Key × V), ps = es.map (fun e => (kV e.1, e.2)) ∧ es.length ≤ 15 ∧ Q (.ref D) (upd A D (.dK (mergeK [] es)))
theorem pe_dispZ {X : Cx} {pos : Pos} {ks : List (Option Expr)} {vs : List Expr} {trs : List (TE × TE)} (hp : PPs X pos ks vs trs) (some' : ks.all (·.isSome) = true) (len : ks.length = vs.length) (ne : ks ≠ []) (few : ks.length ≤ 15) : PE X (.Dict ks vs pos) (tDispZ trs) := by
  constructor
  intro pins t σ H Q I h
  have off : t.heap.objs.size ≠ sysModules := Nat.ne_of_gt I.big
  have new := I.hok.fresh (Nat.le_refl t.heap.objs.size)
  have J := I.laid (a := t.heap.objs.size) (o := .dK []) (h' := t.heap.push { cls := .type "dict", data := .dict #[] }) (t' := t.toks) (fun _ _ e => Heap.get?_push_of_some _ e) (Nat.le_refl _) (dk_empty t.heap I.big)
  refine wpAny_Dict_walk (knd := mixKind X.prog X.w) some' len ne few (thn (hp.run pins _ σ _ _ J (h _ off new)) fun ws t2 ⟨ps, A, J2, rel, e, es, ep, l15, k⟩ => ?_)
  cases ep
  obtain ⟨rs, cr, kr⟩ := carries_of (P := X.prog) (w := X.w) rel
  obtain ⟨_, no, us, r0, dd⟩ := dk_of J2.hok e
  cases r0
  refine ⟨rs, cr, dd, fun g dg keep => ⟨.ref t.heap.objs.size, _, ?_, rfl, k⟩⟩
  have small : (mergeK [] es).length ≤ sizeLine := Nat.le_trans (length_mergeK es []) (by rw [List.length_nil, sizeLine_eq]; omega)
  refine d_write J2 (by rw [e]; exact True.intro) keep ?_ (dk_new small no (kr.merge .nil) dg)
  obtain ⟨o, _, _, ho, _⟩ := dg
  exact ⟨o, ho⟩
end Dz

/-! What may be walked in two ways. -/
namespace Kd2
open PySem L2
theorem pi_or {X : Cx} {tg e : Expr} {w1 w2 : TI} (a : PI X tg e w1) (b : PI X tg e w2) : PI X tg e (fun σ H R => w1 σ H R ∨ w2 σ H R) := ⟨fun pins s σ H R I h => h.elim (a.run pins s σ H R I) (b.run pins s σ H R I)⟩
end Kd2

/-! The law's own call, of a def that is called where no repr is under way. -/
namespace Rp
open PySem PySem.Spec PyProof.Rows L2
theorem law_gcall {P : Program} {w : World} {K : PySem.W.Frag} {mg mb : Str → Option Value} {CX : CXT} {k : Nat} {fa a : Addr} {fd : FuncData} {x : Str} {sp : Sp} {s1 : Shared} {vs : List Value} {ns : List Int}
    (KX : K.In s1.heap) (hns : s1.heap.Ns mainGlobals mg) (hb : s1.heap.Ns builtinsNs mb) (hbb : ∀ y : Str, y ≠ "__name__" → mb y = bootBuiltins y) (lim : s1.heap.NoLimit) (gens : s1.gens = #[])
    (ha : s1.heap.get? a = some { cls := .type "list", data := .seq vs.toArray }) (hi : IntsAre vs ns) (hl : ns.length ≤ sizeLine) (hr : Room k callerA)
    (F : ∀ base : Heap, K.In base → base.Ns mainGlobals mg → GOk P w K mg base CX k fa fd [x] sp) (hbind : ∀ (s : Shared) (u : Value), BindsTo s fd ⟨[u], []⟩ [(x, u)])
    (hsp : ∀ H : Hp, Only H → SqL K H a (ns.map V.int) → sp [.ref a] H (fun v _ => v = .bl true) fun _ _ _ => False)
    (hCX : ∀ H e t, CX [] H s1 (fun _ _ _ => False) e t → False) :
    codeAny (model P w) callerA (.call (.ref fa) ⟨[.ref a], []⟩) (fun r t => r = .ok (.ret (.bool true)) ∧ OldK s1.heap t.heap ∧ t.os = s1.os ∧ AllBare t.gens) s1 := by
  have rv := vals_ints hi
  have nv := hi.length
  have go : ∀ H : Hp, Only H → SqL K H a (ns.map V.int) → HOk P w H s1.heap → (∀ b, H b ≠ none → b = a) → (H a ≠ none → K.lookup a = none) →
      codeAny (model P w) callerA (.call (.ref fa) ⟨[.ref a], []⟩) (fun r t => r = .ok (.ret (.bool true)) ∧ OldK s1.heap t.heap ∧ t.os = s1.os ∧ AllBare t.gens) s1 := by
    intro H hO hS hok only_a noK
    have hid : ∀ {b : Addr} {o : Obj}, s1.heap.get? b = some o → H b = none → (hidT s1.heap H).get? b = some o := fun e n => hidT_get e n
    have dictFree : ∀ {b : Addr} {o : Obj} {es : Array DictEntry} {ep : Nat}, s1.heap.get? b = some o → o.data = .dict es ep → H b = none := fun {b o es ep} e d => by
      cases q : H b with
      | none => rfl
      | some u =>
        have eb : b = a := only_a b (by rw [q]; simp)
        subst eb
        rw [ha] at e
        cases e
        have d2 : Data.seq vs.toArray _ = Data.dict es ep := d
        cases d2
    have nsOf : ∀ {b : Addr} {m : Str → Option Value}, s1.heap.Ns b m → (hidT s1.heap H).Ns b m := fun {b m} ⟨o, es, ep, e, d, r⟩ => ⟨o, es, ep, hid e (dictFree e d), d, r⟩
    have inB : K.In (hidT s1.heap H) := fun b o e => hid (KX b o e) (by
      cases q : H b with
      | none => rfl
      | some u =>
        have eb : b = a := only_a b (by rw [q]; simp)
        subst eb
        rw [noK (by rw [q]; simp)] at e
        cases e)
    have md : Mod K mg (hidT s1.heap H) := ⟨inB, nsOf hns, ⟨mb, nsOf hb, hbb⟩, let ⟨mc, c1, c2⟩ := lim; ⟨mc, nsOf c1, c2⟩⟩
    have e0 : Env0 P w K mg (hidT s1.heap H) callerA [] s1 H := ⟨rfl, md, fun b o e => of_hidT e, Nat.le_of_eq (hidT_size _ _), trivial, fun b hb => absurd (show b ∈ ([] : List Addr) from hb) (by simp), hok, .of_eq gens⟩
    refine codeAny_mono ((F _ inB (nsOf hns)).run callerA [] s1 H ⟨[.ref a], []⟩ [.ref a] [.ref a] _ _ hr rfl e0 (hbind s1 (.ref a)) (.cons rfl .nil) (hsp H hO hS)) fun r t h => ?_
    cases r with
    | error e => exact (hCX H e t h).elim
    | ok fl =>
      cases fl with
      | next => exact h.elim
      | brk => exact h.elim
      | cont => exact h.elim
      | ret u =>
        obtain ⟨v, H', os, bare, un, hok', r', q⟩ := h
        have q' : v = .bl true := q
        subst q'
        obtain rfl : u = Value.bool true := r'
        refine ⟨rfl, OldK.of_keep fun b o e => ?_, os, bare⟩
        cases q : H b with
        | none => exact un.keep b o e q (by intro z; exact absurd (show b ∈ ([] : List Addr) from z) (by simp)) (by simp)
        | some u =>
          rcases hO b with z | ⟨ob, xs, z⟩
          · rw [q] at z
            cases z
          · have z2 := un.frzs b ob _ z
            obtain ⟨e1, _⟩ := hok b _ z
            obtain ⟨e2, _⟩ := hok' b _ z2
            rw [e] at e1
            cases e1
            exact e2
  cases hk : K.lookup a with
  | some o =>
    have e := KX a o hk
    rw [ha] at e
    cases e
    refine go (fun _ => none) (fun _ => .inl rfl) (.inr ⟨_, vs.toArray, _, hk, rfl, rfl, rfl, by rw [List.size_toArray, nv]; exact hl, by simpa using rv⟩) (fun b u z => by have z' : (none : Option HO) = some u := z; cases z') (fun b z => absurd rfl z) fun z => absurd rfl z
  | none =>
    refine go (fun b => if b = a then some (.frz { cls := .type "list", data := .seq vs.toArray } (.lst (ns.map V.int))) else none) (fun b => ?_) (.inl (.inr ⟨{ cls := .type "list", data := .seq vs.toArray }, if_pos rfl⟩)) (fun b u z => ?_) (fun b z => ?_) fun _ => hk
    · by_cases c : b = a
      · exact .inr ⟨_, _, if_pos c⟩
      · exact .inl (if_neg c)
    · by_cases c : b = a
      · have z' := (if_pos c).symm.trans z
        cases z'
        subst c
        exact ⟨ha, by rw [List.length_map]; exact hl, vs, _, rv, ha⟩
      · have z' := (if_neg c).symm.trans z
        cases z'
    · by_cases c : b = a
      · exact c
      · exact absurd (if_neg c) z
theorem walk_gof {l : PySem.W.OpenLaw} {n k : Nat} {q : Program} {loose : List Str} {XP : (Str → Option Value) → Heap → Prop} {YP : World → Heap → Prop} {d : DefRec} {K : Params → PySem.W.Frag} {CX : World → CXT} {sp : World → Sp} {x : Str}
    (hn : l.most = some n) (hn2 : n ≤ sizeLine) (hdf : d.params.defaults = []) (hr : Room k callerA)
    (hY : ∀ (w : World) (h : Heap), YP w h → (K w.params).In h)
    (F : ∀ (w : World) (mg : Str → Option Value) (fa : Addr) (h : Heap), (K w.params).In h → h.Ns mainGlobals mg → mg d.name = some (.ref fa) →
      ∃ fd : FuncData, (∀ (s : Shared) (u : Value), BindsTo s fd ⟨[u], []⟩ [(x, u)]) ∧
        ∀ base : Heap, (K w.params).In base → base.Ns mainGlobals mg → GOk l.prog w (K w.params) mg base (CX w) k fa fd [x] (sp w))
    (hsp : ∀ (w : World) (H : Hp) (a : Addr) (ns : List Int), ns.length ≤ n → Only H → SqL (K w.params) H a (ns.map V.int) → sp w [.ref a] H (fun v _ => v = .bl true) fun _ _ _ => False)
    (hCX : ∀ (w : World) (H : Hp) (s : Shared) (e : Value) (t : Shared), CX w [] H s (fun _ _ _ => False) e t → False) :
    PySem.W.WalkO q loose XP YP l.row.toRowW d [] (fun f vs => PySem.call f vs) := by
  refine Att.attach_call hn hdf fun w s0 s1 mg mb fa o pm cd doc a vs ns G Y ho hd hcd hmg hobj hints hlen hg => ?_
  have KX := hY w _ Y
  obtain ⟨fd, hb, hF⟩ := F w mg fa _ KX G.T.g hmg
  exact law_gcall KX G.T.g G.T.b G.T.builtins G.T.nolimit hg hobj hints (Nat.le_trans hlen hn2) hr hF hb (fun H hO hS => hsp w H a ns hlen hO hS) fun H e t => hCX w H s1 e t
end Rp

/-! x in a list or a tuple of data of any depth. -/
namespace Ind
open PySem PySem.Spec PyProof.Rows L2
def seqD (t : Bool) (ds : List PyData) : PyData := if t = true then .tuple ds else .list ds
def rInS (K : PySem.W.Frag) : R2 := fun x y H Q => ∃ (d : PyData) (ds : List PyData) (t : Bool), Dp K H x d ∧ Dp K H y (seqD t ds) ∧ d.canLay0 = true ∧ d.depth ≤ 60 ∧ PyData.canLayAll0 ds = true ∧ Q (.bl (ds.any fun z => PyData.eqv z d)) H
theorem op_inS {X : Cx} (hu : X.A.units + 65 < cLine) : OpR X (compareOp .In) (rInS X.K) := by
  intro pins s σ H x y v u Q I rx ry h
  obtain ⟨d, ds, t, hd, he, sd, dd, se, q⟩ := h
  obtain ⟨as, r1⟩ := Dp.reads I d x v hd rx
  have room : X.A.units + 1 + min (PyData.depthAll ds) d.depth < cLine := by
    have := Nat.min_le_right (PyData.depthAll ds) d.depth
    omega
  cases t with
  | true =>
    obtain ⟨bs, r2⟩ := Dp.reads I (.tuple ds) y u he ry
    exact SeqAt.in_tuple_reads r2 r1 se sd room ⟨.bl _, H, I, rfl, q⟩
  | false =>
    obtain ⟨bs, r2⟩ := Dp.reads I (.list ds) y u he ry
    exact SeqAt.in_list_reads r2 r1 se sd room ⟨.bl _, H, I, rfl, q⟩
theorem isD {K : PySem.W.Frag} {t : Bool} {H : Hp} {p : Addr} {xs : List V} {ds : List PyData} (h : Kd.Is K t H p xs) (g : DpAll K H xs ds) : Dp K H (.ref p) (seqD t ds) := by
  cases t with
  | true => exact .tup h g
  | false => exact .lst h g
theorem room65 {k : Nat} {A : Around} (r : Room k A) : A.units + 65 < cLine := by have := r.un; omega
end Ind
namespace Ind
open PySem PySem.Spec PyProof.Rows L2
def rNinS (K : PySem.W.Frag) : R2 := fun x y H Q => ∃ (d : PyData) (ds : List PyData) (t : Bool), Dp K H x d ∧ Dp K H y (seqD t ds) ∧ d.canLay0 = true ∧ d.depth ≤ 60 ∧ PyData.canLayAll0 ds = true ∧ Q (.bl (!ds.any fun z => PyData.eqv z d)) H
theorem op_ninS {X : Cx} (hu : X.A.units + 65 < cLine) : OpR X (compareOp .NotIn) (rNinS X.K) := by
  intro pins s σ H x y v u Q I rx ry h
  obtain ⟨d, ds, t, hd, he, sd, dd, se, q⟩ := h
  obtain ⟨as, r1⟩ := Dp.reads I d x v hd rx
  have room : X.A.units + 1 + min (PyData.depthAll ds) d.depth < cLine := by
    have := Nat.min_le_right (PyData.depthAll ds) d.depth
    omega
  cases t with
  | true =>
    obtain ⟨bs, r2⟩ := Dp.reads I (.tuple ds) y u he ry
    exact SeqAt.notIn_tuple_reads r2 r1 se sd room ⟨.bl _, H, I, rfl, q⟩
  | false =>
    obtain ⟨bs, r2⟩ := Dp.reads I (.list ds) y u he ry
    exact SeqAt.notIn_list_reads r2 r1 se sd room ⟨.bl _, H, I, rfl, q⟩
end Ind

/-! Data with lists and the dict {'a': 1}, whose lists and dicts keep off some addresses; lists laid off sys.modules; repr of a list of such. -/
namespace Dz
open PySem PySem.Spec PyProof.Rows L2 Dv Wm
section
variable {X : Cx} {es : List Expr} {pos : Pos} {t : TA}
def tLstZ (t : TA) : TE := fun σ H Q => t σ H fun xs H1 => xs.length ≤ sizeLine ∧ ∀ p, p ≠ sysModules → H1 p = none → Q (.ref p) (upd H1 p (.lst xs))
theorem pe_lstZ (h : PA X es t) : PE X (.List es pos) (tLstZ t) := by
  constructor
  intro pins s σ H Q I hq
  apply wpAny_List_spliced
  refine thn (h.run pos pins s σ H _ I hq) ?_
  intro us s1 hh
  obtain ⟨xs, H1, I1, r, z, q⟩ := hh
  refine ⟨by rw [← r.length]; exact z, ?_⟩
  have big := I1.big
  refine ⟨.ref s1.heap.objs.size, upd H1 _ (.lst xs), I1.laid (t' := s1.toks) (fun b u e => Heap.get?_push_of_some _ e) (Nat.le_refl _) ⟨z, us, 0, r, Heap.get?_push_size _ rfl⟩, rfl, q _ ?_ (I1.hok.fresh (Nat.le_refl _))⟩
  exact Nat.ne_of_gt big
def rListZ (K : PySem.W.Frag) : List V → Hp → VK → Prop := fun xs H Q => ∃ p ys, xs = [.ref p] ∧ (SqL K H p ys ∨ SqT K H p ys) ∧ ∀ l, l ≠ sysModules → H l = none → Q (.ref l) (upd H l (.lst ys))
theorem call_listZ : CallR X (.type "list") (rListZ X.K) := by
  intro pins s σ H vs us Q I r h
  obtain ⟨p, ys, rfl, hp, q⟩ := h
  obtain ⟨u, rfl, ru⟩ := r.one
  cases (show u = Value.ref p from ru)
  have big := I.big
  have new : ∀ (its : List Value), Vals ys its → ys.length ≤ sizeLine → ∀ (g : Heap) (c : Nat), (∀ b o, s.heap.get? b = some o → g.get? b = some o) → g.get? s.heap.objs.size = some { cls := .type "list", dict := none, data := .seq its.toArray c, slots := #[] } → EP X pins σ Q (.ref s.heap.objs.size) { s with heap := g } := by
    intro its rv hz g c kp e
    exact ⟨.ref s.heap.objs.size, upd H _ (.lst ys), I.laid (t' := s.toks) kp (Nat.le_refl _) (show ObjOk X.prog X.w _ g _ (.lst ys) from ⟨hz, its, c, rv, e⟩), rfl, q _ (Nat.ne_of_gt big) (I.hok.fresh (Nat.le_refl _))⟩
  cases hp with
  | inl hp =>
    obtain ⟨its, rv, pl, hz⟩ := I.list hp
    have ln := rv.length
    obtain ⟨o, ho, hc, n, hd⟩ := pl.isList
    exact call_list_seq p (.inl rfl) ho hc hd (fun g c kp e => new its rv hz g c kp e) (by simp only [List.size_toArray]; omega)
  | inr hp =>
    obtain ⟨its, rv, ⟨o, ho, hc, n, hd⟩, hz⟩ := I.tuple hp
    have ln := rv.length
    exact call_list_seq p (.inr rfl) ho hc hd (fun g c kp e => new its rv hz g c kp e) (by simp only [List.size_toArray]; omega)
end
mutual
inductive Dn (K : PySem.W.Frag) (N : Addr → Prop) (H : Hp) : V → PyData → Prop
  | non : Dn K N H .non .none
  | bl (b : Bool) : Dn K N H (.bl b) (.bool b)
  | int (i : Int) : Dn K N H (.int i) (.int i)
  | str (x : Str) : Dn K N H (.str x) (.str x)
  | tup {a : Addr} {xs : List V} {ds : List PyData} : SqT K H a xs → Dns K N H xs ds → Dn K N H (.ref a) (.tuple ds)
  | lst {a : Addr} {xs : List V} {ds : List PyData} : N a → H a = some (.lst xs) → Dns K N H xs ds → Dn K N H (.ref a) (.list ds)
inductive Dns (K : PySem.W.Frag) (N : Addr → Prop) (H : Hp) : List V → List PyData → Prop
  | nil : Dns K N H [] []
  | cons {v : V} {vs : List V} {d : PyData} {ds : List PyData} : Dn K N H v d → Dns K N H vs ds → Dns K N H (v :: vs) (d :: ds)
end
section
variable {K : PySem.W.Frag} {N M : Addr → Prop} {H H' : Hp}
mutual
theorem Dn.toDp : ∀ (d : PyData) (v : V), Dn K N H v d → Dp K H v d
  | .none, _, h => by cases h; exact .non
  | .bool _, _, h => by cases h; exact .bl _
  | .int _, _, h => by cases h; exact .int _
  | .str _, _, h => by cases h; exact .str _
  | .tuple ds, _, h => by
    cases h with
    | tup a b => exact .tup a (Dns.toDp ds _ b)
  | .list ds, _, h => by
    cases h with
    | lst n a b => exact .lst (SqL.of a) (Dns.toDp ds _ b)
  | .dict _, _, h => by cases h
theorem Dns.toDp : ∀ (ds : List PyData) (vs : List V), Dns K N H vs ds → DpAll K H vs ds
  | [], _, h => by cases h; exact .nil
  | d :: ds, _, h => by
    cases h with
    | cons a b => exact .cons (Dn.toDp d _ a) (Dns.toDp ds _ b)
end
mutual
theorem Dn.kk (k : Kt K H H') (f : ∀ a xs, N a → H a = some (.lst xs) → M a ∧ H' a = some (.lst xs)) : ∀ (d : PyData) (v : V), Dn K N H v d → Dn K M H' v d
  | .none, _, h => by cases h; exact .non
  | .bool _, _, h => by cases h; exact .bl _
  | .int _, _, h => by cases h; exact .int _
  | .str _, _, h => by cases h; exact .str _
  | .tuple ds, _, h => by
    cases h with
    | tup a b => exact .tup (k _ _ a) (Dns.kk k f ds _ b)
  | .list ds, _, h => by
    cases h with
    | lst n a b => exact .lst (f _ _ n a).1 (f _ _ n a).2 (Dns.kk k f ds _ b)
  | .dict _, _, h => by cases h
theorem Dns.kk (k : Kt K H H') (f : ∀ a xs, N a → H a = some (.lst xs) → M a ∧ H' a = some (.lst xs)) : ∀ (ds : List PyData) (vs : List V), Dns K N H vs ds → Dns K M H' vs ds
  | [], _, h => by cases h; exact .nil
  | d :: ds, _, h => by
    cases h with
    | cons a b => exact .cons (Dn.kk k f d _ a) (Dns.kk k f ds _ b)
end
mutual
theorem Dn.ofDt : ∀ (d : PyData) (v : V), Dt K H v d → Dn K N H v d
  | .int _, _, h => by cases h; exact .int _
  | .str _, _, h => by cases h; exact .str _
  | .tuple ds, _, h => by
    cases h with
    | tup a b => exact .tup a (Dns.ofDts ds _ b)
  | .none, _, h => by cases h
  | .bool _, _, h => by cases h
  | .list _, _, h => by cases h
  | .dict _, _, h => by cases h
theorem Dns.ofDts : ∀ (ds : List PyData) (vs : List V), Dts K H vs ds → Dns K N H vs ds
  | [], _, h => by cases h; exact .nil
  | d :: ds, _, h => by
    cases h with
    | cons a b => exact .cons (Dn.ofDt d _ a) (Dns.ofDts ds _ b)
end
theorem Dn.ks {d : PyData} {v : V} (h : Dn K N H v d) (s : Same H H') : Dn K N H' v d := Dn.kk (Kt.same s) (fun _ _ n e => ⟨n, s _ _ e⟩) d v h
theorem Dns.ks {ds : List PyData} {vs : List V} (h : Dns K N H vs ds) (s : Same H H') : Dns K N H' vs ds := Dns.kk (Kt.same s) (fun _ _ n e => ⟨n, s _ _ e⟩) ds vs h
theorem Dns.len : ∀ {vs : List V} {ds : List PyData}, Dns K N H vs ds → vs.length = ds.length
  | _, [], h => by cases h; rfl
  | _, d :: ds, h => by
    cases h with
    | cons a b => rw [List.length_cons, List.length_cons, Dns.len b]
theorem Dns.at : ∀ {vs : List V} {ds : List PyData} {i : Nat} {v : V}, Dns K N H vs ds → vs[i]? = some v → ∃ d, ds[i]? = some d ∧ Dn K N H v d
  | _, [], _, _, h, e => by cases h; simp at e
  | _, d :: ds, i, v, h, e => by
    cases h with
    | cons a b =>
      cases i with
      | zero => cases e; exact ⟨d, rfl, a⟩
      | succ i => exact Dns.at (i := i) b (by simpa using e)
def adD : PyData := .dict [(.str "a", .int 1)]
/-- an item: such data, or the dict {'a': 1} -/
def Dz (K : PySem.W.Frag) (N : Addr → Prop) (H : Hp) (v : V) (d : PyData) : Prop := Dn K N H v d ∨ ∃ a, v = .ref a ∧ N a ∧ H a = some (.dK [(Sum.inr "a", V.int 1)]) ∧ d = adD
theorem Dz.kk {v : V} {d : PyData} (h : Dz K N H v d) (k : Kt K H H') (f : ∀ a o, N a → H a = some o → M a ∧ H' a = some o) : Dz K M H' v d := by
  rcases h with h | ⟨a, e, n, e2, e3⟩
  · exact .inl (Dn.kk k (fun a xs n e => f a _ n e) d v h)
  · exact .inr ⟨a, e, (f _ _ n e2).1, (f _ _ n e2).2, e3⟩
theorem Dz.ks {v : V} {d : PyData} (h : Dz K N H v d) (s : Same H H') : Dz K N H' v d := h.kk (Kt.same s) fun _ _ n e => ⟨n, s _ _ e⟩
inductive Dzs (K : PySem.W.Frag) (N : Addr → Prop) (H : Hp) : List V → List PyData → Prop
  | nil : Dzs K N H [] []
  | cons {v : V} {vs : List V} {d : PyData} {ds : List PyData} : Dz K N H v d → Dzs K N H vs ds → Dzs K N H (v :: vs) (d :: ds)
theorem Dzs.kk (k : Kt K H H') (f : ∀ a o, N a → H a = some o → M a ∧ H' a = some o) : ∀ {vs : List V} {ds : List PyData}, Dzs K N H vs ds → Dzs K M H' vs ds
  | _, _, .nil => .nil
  | _, _, .cons a b => .cons (a.kk k f) (Dzs.kk k f b)
theorem Dzs.ks {ds : List PyData} {vs : List V} (h : Dzs K N H vs ds) (s : Same H H') : Dzs K N H' vs ds := h.kk (Kt.same s) fun _ _ n e => ⟨n, s _ _ e⟩
theorem Dzs.len : ∀ {vs : List V} {ds : List PyData}, Dzs K N H vs ds → vs.length = ds.length
  | _, _, .nil => rfl
  | _, _, .cons a b => by rw [List.length_cons, List.length_cons, Dzs.len b]
theorem Dzs.at : ∀ {vs : List V} {ds : List PyData} {i : Nat} {v : V}, Dzs K N H vs ds → vs[i]? = some v → ∃ d, ds[i]? = some d ∧ Dz K N H v d
  | _, _, i, v, .nil, e => by simp at e
  | _, _, i, v, .cons (d := d) a b, e => by
    cases i with
    | zero => cases e; exact ⟨d, rfl, a⟩
    | succ i => exact Dzs.at (i := i) b (by simpa using e)
theorem Dzs.app : ∀ {vs us : List V} {ds es : List PyData}, Dzs K N H vs ds → Dzs K N H us es → Dzs K N H (vs ++ us) (ds ++ es)
  | _, _, _, _, .nil, h => h
  | _, _, _, _, .cons a b, h => .cons a (Dzs.app b h)
theorem Dzs.take : ∀ {vs : List V} {ds : List PyData} (n : Nat), Dzs K N H vs ds → Dzs K N H (vs.take n) (ds.take n)
  | _, _, n, .nil => by rw [List.take_nil, List.take_nil]; exact .nil
  | _, _, 0, .cons a b => .nil
  | _, _, n + 1, .cons a b => .cons a (Dzs.take n b)
theorem Dzs.drop : ∀ {vs : List V} {ds : List PyData} (n : Nat), Dzs K N H vs ds → Dzs K N H (vs.drop n) (ds.drop n)
  | _, _, n, .nil => by rw [List.drop_nil, List.drop_nil]; exact .nil
  | _, _, 0, .cons a b => .cons a b
  | _, _, n + 1, .cons a b => Dzs.drop n b
theorem Dzs.ofDts : ∀ {vs : List V} {ds : List PyData}, Dts K H vs ds → Dzs K N H vs ds
  | _, [], h => by cases h; exact .nil
  | _, d :: ds, h => by
    cases h with
    | cons a b => exact .cons (.inl (Dn.ofDt d _ a)) (Dzs.ofDts b)
end
section
variable {X : Cx} {pins : List (Addr × Obj)} {σ : L2.St} {H : Hp} {s : Shared} {N : Addr → Prop}
mutual
theorem Dn.reads (I : Inv X pins σ H s) (hN : ∀ a, N a → a ≠ sysModules) : ∀ (d : PyData) (v : V) (u : Value), Dn X.K N H v d → RelV v u → ∃ as, Reads s.heap u d as ∧ sysModules ∉ as
  | .none, _, _, h, r => by cases h; cases r; exact ⟨_, .none, List.not_mem_nil⟩
  | .bool b, _, _, h, r => by cases h; cases r; exact ⟨_, .bool b, List.not_mem_nil⟩
  | .int i, _, _, h, r => by cases h; obtain ⟨t, rfl⟩ := r; exact ⟨_, .int i t, List.not_mem_nil⟩
  | .str x, _, _, h, r => by cases h; obtain ⟨t, rfl⟩ := r; exact ⟨_, .str x t, List.not_mem_nil⟩
  | .tuple ds, _, _, h, r => by
    cases h with
    | tup a b =>
      cases r
      obtain ⟨its, rv, ⟨o, ho, hc, n, hd⟩, _⟩ := I.tuple a
      obtain ⟨as, hr, hn⟩ := Dns.reads I hN ds _ its b rv
      exact ⟨as, .tuple ho hc hd hr, hn⟩
  | .list ds, _, _, h, r => by
    cases h with
    | @lst a _ _ na e b =>
      cases r
      obtain ⟨its, rv, ⟨o, n, ho, hc, _, hd⟩, _⟩ := I.list (SqL.of e)
      obtain ⟨as, hr, hn⟩ := Dns.reads I hN ds _ its b rv
      refine ⟨a :: as, .list ho hc hd hr, fun m => ?_⟩
      rcases List.mem_cons.mp m with z | z
      · exact hN a na z.symm
      · exact hn z
  | .dict _, _, _, h, _ => by cases h
theorem Dns.reads (I : Inv X pins σ H s) (hN : ∀ a, N a → a ≠ sysModules) : ∀ (ds : List PyData) (vs : List V) (us : List Value), Dns X.K N H vs ds → Vals vs us → ∃ as, ReadsAll s.heap us ds as ∧ sysModules ∉ as
  | [], _, _, h, r => by cases h; cases r; exact ⟨_, .nil, List.not_mem_nil⟩
  | d :: ds, _, _, h, r => by
    cases h with
    | cons a b =>
      cases r with
      | cons ra rb =>
        obtain ⟨as, h1, n1⟩ := Dn.reads I hN d _ _ a ra
        obtain ⟨bs, h2, n2⟩ := Dns.reads I hN ds _ _ b rb
        exact ⟨as ++ bs, .cons h1 h2, fun m => (List.mem_append.mp m).elim n1 n2⟩
end
theorem Dz.reads (I : Inv X pins σ H s) (hN : ∀ a, N a → a ≠ sysModules) {d : PyData} {v : V} {u : Value} (h : Dz X.K N H v d) (r : RelV v u) : ∃ as, Reads s.heap u d as ∧ sysModules ∉ as := by
  rcases h with h | ⟨a, rfl, na, e, rfl⟩
  · exact Dn.reads I hN d v u h r
  · cases r
    obtain ⟨_, _, vs, rel, o, es, ep, h1, h2, h3, _, pr, _⟩ := dk_of I.hok e
    cases rel with
    | @cons p0 kv ps qs hd tl =>
      cases tl
      generalize hes : es.toList = L at pr
      cases pr with
      | @cons en _ es' kvs' k1 v1 t =>
        cases t
        have k1 : keyIs kv.1 en.key = true := k1
        obtain ⟨r1, r2⟩ := hd
        rw [← show (Sum.inr "a" : Key) = kv.1 from r1] at k1
        rcases keyIs_shape k1 with ⟨i, t, z, _⟩ | ⟨x, t, z, ek⟩
        · cases z
        · cases z
          obtain ⟨t2, ev⟩ := (show RelV (V.int 1) kv.2 from r2)
          refine ⟨_, .dict (as := []) (bs := []) h1 h2.1 h3 ?_ ?_, ?_⟩
          · rw [hes]
            show ReadsAll s.heap [en.key] [PyData.str "a"] []
            rw [ek]
            exact .cons (.str _ t) .nil
          · rw [hes]
            show ReadsAll s.heap [en.val] [PyData.int 1] []
            rw [v1, ev]
            exact .cons (.int _ t2) .nil
          · intro m
            rcases List.mem_cons.mp m with z | z
            · exact hN a na z.symm
            · simp at z
theorem Dzs.reads (I : Inv X pins σ H s) (hN : ∀ a, N a → a ≠ sysModules) : ∀ {ds : List PyData} {vs : List V} {us : List Value}, Dzs X.K N H vs ds → Vals vs us → ∃ as, ReadsAll s.heap us ds as ∧ sysModules ∉ as
  | _, _, _, .nil, r => by cases r; exact ⟨_, .nil, List.not_mem_nil⟩
  | _, _, _, .cons a b, r => by
    cases r with
    | cons ra rb =>
      obtain ⟨as, h1, n1⟩ := a.reads I hN ra
      obtain ⟨bs, h2, n2⟩ := Dzs.reads I hN b rb
      exact ⟨as ++ bs, .cons h1 h2, fun m => (List.mem_append.mp m).elim n1 n2⟩
end
/-! repr of a list of such -/
def rReprZ (K : PySem.W.Frag) : List V → Hp → VK → Prop := fun xs H Q => ∃ (a : Addr) (vs : List V) (ds : List PyData) (N : Addr → Prop), xs = [.ref a] ∧ a ≠ sysModules ∧ (∀ b, N b → b ≠ sysModules) ∧ H a = some (.lst vs) ∧ Dzs K N H vs ds ∧ (PyData.list ds).showable = true ∧ (PyData.list ds).depth ≤ 60 ∧ (PyData.list ds).shown.length ≤ sizeLine ∧ Q (.str (PyData.list ds).shown) H
theorem call_reprZ {X : Cx} (hg : X.A.guards = some []) (hu : X.A.units + 64 < cLine) : CallR X (.builtin "repr") (rReprZ X.K) := by
  intro pins s σ H xs us Q I r h
  obtain ⟨a, vs, ds, N, rfl, na, hN, ha, hd, hs, hz, hl, q⟩ := h
  obtain ⟨u, rfl, ru⟩ := r.one
  cases ru
  obtain ⟨its, rv, ⟨o, n, ho, hc, _, hd2⟩, _⟩ := I.list (SqL.of ha)
  obtain ⟨as, hr, hn⟩ := hd.reads I hN rv
  refine PySem.repr_of_reads' (.list ho hc hd2 hr) hs (fun _ m => ?_) hg (by omega) (fun _ _ e => e) (fun g u tk k => ⟨.str _, H, I.kept (t' := tk) k, ⟨_, rfl⟩, q⟩) hl
  rcases List.mem_cons.mp m with z | z
  · exact na z.symm
  · exact hn z
end Dz

/-! (de.txt and {'a': 1}.) Data with lists and small dicts that keep off some addresses; repr of such, == of a text and a dict, x in a tuple of texts, a list != []. -/
namespace De
open PySem PySem.Spec PyProof.Rows L2 Dv Wm PySem.SeqAt
mutual
inductive En (K : PySem.W.Frag) (N : Addr → Prop) (H : Hp) : V → PyData → Prop
  | non : En K N H .non .none
  | bl (b : Bool) : En K N H (.bl b) (.bool b)
  | int (i : Int) : En K N H (.int i) (.int i)
  | str (x : Str) : En K N H (.str x) (.str x)
  | tup {a : Addr} {xs : List V} {ds : List PyData} : SqT K H a xs → Ens K N H xs ds → En K N H (.ref a) (.tuple ds)
  | lst {a : Addr} {xs : List V} {ds : List PyData} : N a → H a = some (.lst xs) → Ens K N H xs ds → En K N H (.ref a) (.list ds)
  | emp {a : Addr} : N a → H a = some (.dK []) → En K N H (.ref a) (.dict [])
  | one {a : Addr} : N a → H a = some (.dK [(Sum.inr "a", V.int 1)]) → En K N H (.ref a) (.dict [(.str "a", .int 1)])
inductive Ens (K : PySem.W.Frag) (N : Addr → Prop) (H : Hp) : List V → List PyData → Prop
  | nil : Ens K N H [] []
  | cons {v : V} {vs : List V} {d : PyData} {ds : List PyData} : En K N H v d → Ens K N H vs ds → Ens K N H (v :: vs) (d :: ds)
end
section
variable {K : PySem.W.Frag} {N M : Addr → Prop} {H H' : Hp}
mutual
theorem En.kk (k : Kt K H H') (f : ∀ a o, N a → H a = some o → M a ∧ H' a = some o) : ∀ (d : PyData) (v : V), En K N H v d → En K M H' v d
  | .none, _, h => by cases h; exact .non
  | .bool _, _, h => by cases h; exact .bl _
  | .int _, _, h => by cases h; exact .int _
  | .str _, _, h => by cases h; exact .str _
  | .tuple ds, _, h => by
    cases h with
    | tup a b => exact .tup (k _ _ a) (Ens.kk k f ds _ b)
  | .list ds, _, h => by
    cases h with
    | lst n a b => exact .lst (f _ _ n a).1 (f _ _ n a).2 (Ens.kk k f ds _ b)
  | .dict _, _, h => by
    cases h with
    | emp n e => exact .emp (f _ _ n e).1 (f _ _ n e).2
    | one n e => exact .one (f _ _ n e).1 (f _ _ n e).2
theorem Ens.kk (k : Kt K H H') (f : ∀ a o, N a → H a = some o → M a ∧ H' a = some o) : ∀ (ds : List PyData) (vs : List V), Ens K N H vs ds → Ens K M H' vs ds
  | [], _, h => by cases h; exact .nil
  | d :: ds, _, h => by
    cases h with
    | cons a b => exact .cons (En.kk k f d _ a) (Ens.kk k f ds _ b)
end
mutual
theorem En.ofDt : ∀ (d : PyData) (v : V), Dt K H v d → En K N H v d
  | .int _, _, h => by cases h; exact .int _
  | .str _, _, h => by cases h; exact .str _
  | .tuple ds, _, h => by
    cases h with
    | tup a b => exact .tup a (Ens.ofDts ds _ b)
  | .none, _, h => by cases h
  | .bool _, _, h => by cases h
  | .list _, _, h => by cases h
  | .dict _, _, h => by cases h
theorem Ens.ofDts : ∀ (ds : List PyData) (vs : List V), Dts K H vs ds → Ens K N H vs ds
  | [], _, h => by cases h; exact .nil
  | d :: ds, _, h => by
    cases h with
    | cons a b => exact .cons (En.ofDt d _ a) (Ens.ofDts ds _ b)
end
theorem En.ks {d : PyData} {v : V} (h : En K N H v d) (s : Same H H') : En K N H' v d := En.kk (Kt.same s) (fun _ _ n e => ⟨n, s _ _ e⟩) d v h
theorem Ens.ks {ds : List PyData} {vs : List V} (h : Ens K N H vs ds) (s : Same H H') : Ens K N H' vs ds := Ens.kk (Kt.same s) (fun _ _ n e => ⟨n, s _ _ e⟩) ds vs h
theorem Ens.len : ∀ {vs : List V} {ds : List PyData}, Ens K N H vs ds → vs.length = ds.length
  | _, [], h => by cases h; rfl
  | _, d :: ds, h => by
    cases h with
    | cons a b => rw [List.length_cons, List.length_cons, Ens.len b]
theorem Ens.at : ∀ {vs : List V} {ds : List PyData} {i : Nat} {v : V}, Ens K N H vs ds → vs[i]? = some v → ∃ d, ds[i]? = some d ∧ En K N H v d
  | _, [], _, _, h, e => by cases h; simp at e
  | _, d :: ds, i, v, h, e => by
    cases h with
    | cons a b =>
      cases i with
      | zero => cases e; exact ⟨d, rfl, a⟩
      | succ i => exact Ens.at (i := i) b (by simpa using e)
theorem Ens.take : ∀ {vs : List V} {ds : List PyData} (n : Nat), Ens K N H vs ds → Ens K N H (vs.take n) (ds.take n)
  | _, _, n, .nil => by rw [List.take_nil, List.take_nil]; exact .nil
  | _, _, 0, .cons a b => .nil
  | _, _, n + 1, .cons a b => .cons a (Ens.take n b)
theorem Ens.drop : ∀ {vs : List V} {ds : List PyData} (n : Nat), Ens K N H vs ds → Ens K N H (vs.drop n) (ds.drop n)
  | _, _, n, .nil => by rw [List.drop_nil, List.drop_nil]; exact .nil
  | _, _, 0, .cons a b => .cons a b
  | _, _, n + 1, .cons a b => Ens.drop n b
theorem Ens.app : ∀ {vs us : List V} {ds es : List PyData}, Ens K N H vs ds → Ens K N H us es → Ens K N H (vs ++ us) (ds ++ es)
  | _, _, _, _, .nil, h => h
  | _, _, _, _, .cons a b, h => .cons a (Ens.app b h)
theorem Ens.set {v : V} {d : PyData} (h : En K N H v d) : ∀ {vs : List V} {ds : List PyData} (k : Nat), Ens K N H vs ds → Ens K N H (vs.set k v) (ds.set k d)
  | _, _, _, .nil => .nil
  | _, _, 0, .cons a b => .cons h b
  | _, _, k + 1, .cons a b => .cons a (Ens.set h k b)
theorem Ens.snoc {vs : List V} {ds : List PyData} {v : V} {d : PyData} (h : Ens K N H vs ds) (g : En K N H v d) : Ens K N H (vs ++ [v]) (ds ++ [d]) := h.app (.cons g .nil)
theorem Ens.get : ∀ {vs : List V} {ds : List PyData} {i : Nat} {d : PyData}, Ens K N H vs ds → ds[i]? = some d → ∃ v, vs[i]? = some v ∧ En K N H v d
  | _, _, _, _, .nil, e => by simp at e
  | _, _, i, d, .cons (v := v) a b, e => by
    cases i with
    | zero => cases e; exact ⟨v, rfl, a⟩
    | succ i => exact Ens.get (i := i) b (by simpa using e)
theorem Ens.rep : ∀ (k : Nat) {vs : List V} {ds : List PyData}, Ens K N H vs ds → Ens K N H (List.replicate k vs).flatten (List.replicate k ds).flatten
  | 0, _, _, _ => .nil
  | k + 1, vs, ds, h => by
    rw [List.replicate_succ, List.replicate_succ, List.flatten_cons, List.flatten_cons]
    exact h.app (Ens.rep k h)
end
section
variable {X : Cx} {pins : List (Addr × Obj)} {σ : L2.St} {H : Hp} {s : Shared} {N : Addr → Prop}
mutual
theorem En.reads (I : Inv X pins σ H s) (hN : ∀ a, N a → a ≠ sysModules) : ∀ (d : PyData) (v : V) (u : Value), En X.K N H v d → RelV v u → ∃ as, Reads s.heap u d as ∧ sysModules ∉ as
  | .none, _, _, h, r => by cases h; cases r; exact ⟨_, .none, List.not_mem_nil⟩
  | .bool b, _, _, h, r => by cases h; cases r; exact ⟨_, .bool b, List.not_mem_nil⟩
  | .int i, _, _, h, r => by cases h; obtain ⟨t, rfl⟩ := r; exact ⟨_, .int i t, List.not_mem_nil⟩
  | .str x, _, _, h, r => by cases h; obtain ⟨t, rfl⟩ := r; exact ⟨_, .str x t, List.not_mem_nil⟩
  | .tuple ds, _, _, h, r => by
    cases h with
    | tup a b =>
      cases r
      obtain ⟨its, rv, ⟨o, ho, hc, n, hd⟩, _⟩ := I.tuple a
      obtain ⟨as, hr, hn⟩ := Ens.reads I hN ds _ its b rv
      exact ⟨as, .tuple ho hc hd hr, hn⟩
  | .list ds, _, _, h, r => by
    cases h with
    | @lst a _ _ na e b =>
      cases r
      obtain ⟨its, rv, ⟨o, n, ho, hc, _, hd⟩, _⟩ := I.list (SqL.of e)
      obtain ⟨as, hr, hn⟩ := Ens.reads I hN ds _ its b rv
      refine ⟨a :: as, .list ho hc hd hr, fun m => ?_⟩
      rcases List.mem_cons.mp m with z | z
      · exact hN a na z.symm
      · exact hn z
  | .dict _, _, _, h, r => by
    cases h with
    | @emp a na e =>
      cases r
      obtain ⟨_, _, vs, rel, o, es, ep, h1, h2, h3, _, pr, _⟩ := dk_of I.hok e
      cases rel
      generalize hes : es.toList = L at pr
      cases pr
      refine ⟨_, .dict (as := []) (bs := []) h1 h2.1 h3 (by rw [hes]; exact .nil) (by rw [hes]; exact .nil), fun m => ?_⟩
      rcases List.mem_cons.mp m with z | z
      · exact hN a na z.symm
      · simp at z
    | @one a na e => exact Dz.Dz.reads I hN (.inr ⟨a, rfl, na, e, rfl⟩) r
theorem Ens.reads (I : Inv X pins σ H s) (hN : ∀ a, N a → a ≠ sysModules) : ∀ (ds : List PyData) (vs : List V) (us : List Value), Ens X.K N H vs ds → Vals vs us → ∃ as, ReadsAll s.heap us ds as ∧ sysModules ∉ as
  | [], _, _, h, r => by cases h; cases r; exact ⟨_, .nil, List.not_mem_nil⟩
  | d :: ds, _, _, h, r => by
    cases h with
    | cons a b =>
      cases r with
      | cons ra rb =>
        obtain ⟨as, h1, n1⟩ := En.reads I hN d _ _ a ra
        obtain ⟨bs, h2, n2⟩ := Ens.reads I hN ds _ _ b rb
        exact ⟨as ++ bs, .cons h1 h2, fun m => (List.mem_append.mp m).elim n1 n2⟩
end
end
/-- repr of such -/
def rReprE (K : PySem.W.Frag) : List V → Hp → VK → Prop := fun xs H Q => ∃ (v : V) (d : PyData) (N : Addr → Prop), xs = [v] ∧ (∀ b, N b → b ≠ sysModules) ∧ En K N H v d ∧ d.showable = true ∧ d.depth ≤ 60 ∧ d.shown.length ≤ sizeLine ∧ Q (.str d.shown) H
theorem call_reprE {X : Cx} (hg : X.A.guards = some []) (hu : X.A.units + 64 < cLine) : CallR X (.builtin "repr") (rReprE X.K) := by
  intro pins s σ H xs us Q I r h
  obtain ⟨v, d, N, rfl, hN, hd, hs, hz, hl, q⟩ := h
  obtain ⟨u, rfl, ru⟩ := r.one
  obtain ⟨as, rd, hn⟩ := En.reads I hN d v u hd ru
  cases rd with
  | none => exact PySem.P.repr_of_none ⟨.str _, H, I.tok _, ⟨_, rfl⟩, q⟩
  | bool b => exact PySem.P.repr_of_bool ⟨.str _, H, I.tok _, ⟨_, rfl⟩, q⟩
  | int i t => exact PySem.P.repr_of_int (of_decide_eq_true hs) ⟨.str _, H, I.tok _, ⟨_, rfl⟩, q⟩
  | str z t => exact PySem.P.repr_of_str (hsz := hl) ⟨.str _, H, I.tok _, ⟨_, rfl⟩, q⟩
  | list h1 h2 h3 h4 => exact PySem.repr_of_reads' (.list h1 h2 h3 h4) hs (fun _ m => hn m) hg (by omega) (fun _ _ e => e) (fun g u tk k => ⟨.str _, H, I.kept (t' := tk) k, ⟨_, rfl⟩, q⟩) hl
  | tuple h1 h2 h3 h4 => exact PySem.repr_of_reads' (.tuple h1 h2 h3 h4) hs (fun _ m => hn m) hg (by omega) (fun _ _ e => e) (fun g u tk k => ⟨.str _, H, I.kept (t' := tk) k, ⟨_, rfl⟩, q⟩) hl
  | dict h1 h2 h3 h4 h5 => exact PySem.repr_of_reads' (.dict h1 h2 h3 h4 h5) hs (fun _ m => hn m) hg (by omega) (fun _ _ e => e) (fun g u tk k => ⟨.str _, H, I.kept (t' := tk) k, ⟨_, rfl⟩, q⟩) hl
end De
namespace De
open PySem PySem.SeqAt MeetsSeq
section
variable {A : Around} {s : Shared}
theorem str_declines (b : Str) (u : Tok) (l : Addr) (es : Array DictEntry) (nn : Nat) (dd : Option Addr) (sl : Array (Option Value)) :
    Meets (Builtin.«str.__eq__» ⟨[.str b u, .ref l], []⟩) (fun _ R s => s.heap.get? l = some { cls := .type "dict", dict := dd, data := .dict es nn, slots := sl } ∧ R (.ok (.ret .notImplemented)) s) :=
  .of_wp fun prog w A R s h => by obtain ⟨hp, g, d, tk, os⟩ := s; obtain ⟨hl, h⟩ := h; wp_walk using wpAny_loadPart' hl, wpAny_load hl; exact ⟨_, rfl, h⟩
theorem dict_declines (b : Str) (u : Tok) (l : Addr) (es : Array DictEntry) (nn : Nat) (dd : Option Addr) (sl : Array (Option Value)) :
    Meets (Builtin.«dict.__eq__» ⟨[.ref l, .str b u], []⟩) (fun _ R s => s.heap.get? l = some { cls := .type "dict", dict := dd, data := .dict es nn, slots := sl } ∧ R (.ok (.ret .notImplemented)) s) :=
  .of_wp fun prog w A R s h => by obtain ⟨hp, g, d, tk, os⟩ := s; obtain ⟨hl, h⟩ := h; have f1 := F.sub_str_dict; wp_walk using wpAny_loadPart' hl; exact ⟨_, rfl, h⟩
theorem rc_str_dict {l : Addr} {o : Obj} {es : Array DictEntry} {nn : Nat} (b : Str) (u : Tok) (ho : s.heap.get? l = some o) (hc : o.cls = .type "dict") (hd : o.data = .dict es nn) (hu : A.units < cLine) : RcAt A s (.str b u) (.ref l) false := fun prog w E Q h => by
  obtain ⟨cls, dd, data, sl⟩ := o
  simp only at hc hd
  subst hc hd
  exact rc_eq_decline_or (k := false) (typeIs_str s b u) ⟨_, ho, rfl⟩ (by decide) F.sub_dict_str F.slot_str_eq F.slot_dict_eq_refl
    (fun _ hq => call_meets F.slot_str_eq (typeIs_str s b u) F.entry_str_eq (F.args_str_eq_2 _ _) (str_declines b u l es nn dd sl) ⟨ho, hq⟩)
    (fun _ hq => call_meets F.slot_dict_eq_refl ⟨_, ho, rfl⟩ F.entry_dict_eq (F.args_dict_eq_2 _ _) (dict_declines b u l es nn dd sl) ⟨ho, hq⟩)
    (fun _ hq => wpAny_of_eq (rfl : isSame (.str b u) (.ref l) = pure false) hq) (.inr hu) h
theorem eq_str_dict {l : Addr} {o : Obj} {es : Array DictEntry} {nn : Nat} (b : Str) (u : Tok) (ho : s.heap.get? l = some o) (hc : o.cls = .type "dict") (hd : o.data = .dict es nn) (hu : A.units < cLine) : EqAt A s (.str b u) (.ref l) false := fun prog w E Q h => by
  unfold eqBool
  refine wpAny_holding ?_
  refine wpAny_ite_split (fun hab => absurd (eq_of_beq hab) nofun) (fun _ => ?_)
  exact wpAny_bind (rc_str_dict b u ho hc hd hu prog w E _ (wpAny_truthy_bool h))
end
end De
namespace De
open PySem PySem.Spec PyProof.Rows L2 Dv Wm PySem.SeqAt
/-- a text against any such datum -/
theorem eq_str_any {X : Cx} {pins : List (Addr × Obj)} {σ : L2.St} {H : Hp} {s : Shared} {N : Addr → Prop} {A : Around} (I : Inv X pins σ H s) (hN : ∀ a, N a → a ≠ sysModules) {d : PyData} {v : V} {u : Value} (h : En X.K N H v d) (r : RelV v u) (t : Str) (k : Tok) (hu : A.units < cLine) :
    EqAt A s (.str t k) u (PyData.eqv (.str t) d) := by
  obtain ⟨as, rd, _⟩ := En.reads I hN d v u h r
  cases rd with
  | none => exact EqAt.str_none t k
  | bool y => exact EqAt.str_bool t k y
  | int y u => exact EqAt.str_int t k y u
  | str y u => exact EqAt.str_str t k y u
  | list k1 k2 k3 k4 => exact EqAt.str_list t k ⟨_, k1, k2, _, k3⟩ hu
  | tuple k1 k2 k3 k4 => exact EqAt.str_tuple t k ⟨_, k1, k2, _, k3⟩ hu
  | dict k1 k2 k3 k4 k5 => exact eq_str_dict t k k1 k2 k3 hu
/-- x in (texts), x any such datum -/
def rInTx (K : PySem.W.Frag) : R2 := fun x y H Q => ∃ (d : PyData) (N : Addr → Prop) (q : Addr) (ts : List Str), (∀ a, N a → a ≠ sysModules) ∧ En K N H x d ∧ y = .ref q ∧ SqT K H q (ts.map V.str) ∧ Q (.bl (ts.any fun t => PyData.eqv (.str t) d)) H
theorem vals_str : ∀ {ts : List Str} {us : List Value}, Vals (ts.map V.str) us → ∀ y ∈ us, ∃ t k, y = Value.str t k
  | [], _, h, _, m => by cases h; cases m
  | t :: ts, _, h, y, m => by
    cases h with
    | cons a b =>
      rcases List.mem_cons.mp m with rfl | m
      · obtain ⟨k, e⟩ := a
        exact ⟨t, k, e⟩
      · exact vals_str b y m
def strB (d : PyData) : Value → Bool
  | .str t _ => PyData.eqv (.str t) d
  | _ => false
theorem any_str (d : PyData) : ∀ {ts : List Str} {us : List Value}, Vals (ts.map V.str) us → us.any (strB d) = ts.any fun t => PyData.eqv (.str t) d
  | [], _, h => by cases h; rfl
  | t :: ts, _, h => by
    cases h with
    | cons a b =>
      obtain ⟨k, e⟩ := a
      rw [List.any_cons, List.any_cons, any_str d b, e]
      rfl
theorem op_inTx {X : Cx} (hu : X.A.units + 65 < cLine) : OpR X (compareOp .In) (rInTx X.K) := by
  intro pins s σ H x y v u Q I rx ry h
  obtain ⟨d, N, q, ts, hN, hd, rfl, hq, k⟩ := h
  cases ry
  obtain ⟨its, rv, hl, _⟩ := I.tuple hq
  refine SeqAt.in_tupleAt (strB d) hl (fun y hy => ?_) ?_
  · obtain ⟨t, k, rfl⟩ := vals_str rv y (by simpa using hy)
    exact eq_str_any I hN hd rx t k (show X.A.units + 1 < cLine by omega)
  · have e : its.toArray.any (strB d) = ts.any fun t => PyData.eqv (.str t) d := by
      rw [← Array.any_toList]
      exact any_str d (by simpa using rv)
    rw [e]
    exact ⟨.bl _, H, I, rfl, k⟩
/-- xs != [] -/
def rNeNil (K : PySem.W.Frag) : R2 := fun x y H Q => ∃ (a b : Addr) (xs : List V), x = .ref a ∧ y = .ref b ∧ SqL K H a xs ∧ SqL K H b [] ∧ Q (.bl (!xs.isEmpty)) H
theorem op_neNil {X : Cx} (hu : X.A.units + 65 < cLine) : OpR X (compareOp .NotEq) (rNeNil X.K) := by
  intro pins s σ H x y v u Q I rx ry h
  obtain ⟨a, b, xs, rfl, rfl, ha, hb, k⟩ := h
  cases rx
  cases ry
  obtain ⟨its, rv, pl, _⟩ := I.list ha
  obtain ⟨jts, rw2, pl2, _⟩ := I.list hb
  cases rw2
  have hu2 : X.A.units < cLine := by omega
  show wpAny _ _ (richCompare .NotEq _ _) _ _ s
  cases rv with
  | nil => exact RcNeAt.lists (e := fun _ => true) pl.isList pl2.isList rfl hu2 (fun j h1 => absurd h1 (by simp)) _ _ _ _ ⟨.bl _, H, I, rfl, k⟩
  | cons r1 r2 => exact RcNeAt.lists_lengths pl.isList pl2.isList (by simp) hu2 _ _ _ _ ⟨.bl _, H, I, rfl, k⟩
end De

/-! iter(tuple) as a value; list(x), x with an __iter__ that gives such a one, and an own __len__. -/
namespace Li
open PySem PySem.Spec PyProof.Rows L2
/-- an iterator of the tuple t, not begun -/
def TiO (t it : Addr) : HO := .ext fun h => h.IsTupleIter it t 0
theorem ti_at {h h' : Heap} {t it : Addr} {i : Nat} (x : h.IsTupleIter it t i) (k : ∀ o, h.get? it = some o → h'.get? it = some o) : h'.IsTupleIter it t i := by
  obtain ⟨o, e, r⟩ := x
  exact ⟨o, k o e, r⟩
theorem ti_ok {P : Program} {w : World} {H : Hp} {h : Heap} {t it : Addr} (x : h.IsTupleIter it t 0) : ObjOk P w H h it (TiO t it) :=
  ⟨x, by obtain ⟨o, e, _⟩ := x; exact ⟨o, e⟩, fun _ _ p k => ti_at p k⟩
/-- iter(t): the iterator is younger than all that is tracked -/
def rIterT (K : PySem.W.Frag) : List V → Hp → VK → Prop := fun xs H Q => ∃ (t : Addr) (zs : List V), xs = [.ref t] ∧ SqT K H t zs ∧ ∀ it, H it = none → (∀ b o, H b = some o → b < it) → Q (.ref it) (upd H it (TiO t it))
section
variable {X : Cx}
theorem call_iterT : CallR X (.builtin "iter") (rIterT X.K) := by
  intro pins s σ H xs us Q I r h
  obtain ⟨t, zs, rfl, hq, q⟩ := h
  obtain ⟨u, rfl, ru⟩ := r.one
  cases (show u = Value.ref t from ru)
  obtain ⟨its, rv, pl, hz⟩ := I.tuple hq
  refine Calls.call_function_entry (by decide +kernel) (by decide +kernel) PySem.W.kdk_entry_iter (PySem.W.kdk_args_iter _) ?_
  unfold Builtin.«iter»
  refine wpAny_bind (m := someArgs "iter" 1 2 _) (wpAny_of_eq (a := [Value.ref t]) (by first | rfl | kernel_rfl!) ?_)
  show wpAny _ _ (pyIter (.ref t) >>= _) _ _ _
  refine wpAny_bind (wpAny_pyIter_tuple (items := its.toArray) pl (wpAny_pure ⟨_, rfl, ?_⟩))
  refine ⟨.ref s.heap.objs.size, _, I.laid (t' := s.toks) (fun b u e => Heap.get?_push_of_some _ e) (Nat.le_refl _) (ti_ok ⟨_, Heap.get?_push_size _ rfl, rfl, rfl⟩), rfl, q _ (I.hok.fresh (Nat.le_refl _)) fun b o e => ?_⟩
  exact (I.hok b o e).lt
end
section
variable {X : Cx} {pins : List (Addr × Obj)} {σ : L2.St} {q it t : Addr} {zs : List V} {A1 : Around} {Rs : Result → Shared → Prop}
/-- the list at q takes what the iterator gives -/
theorem fill (hh : A1.in1.handled = none) (few : zs.length ≤ 1000) : ∀ (k i : Nat) (H : Hp) (s : Shared), zs.length - i = k → i ≤ zs.length → Inv X pins σ H s → H q = some (.lst (zs.take i)) → FpOk X pins H it → s.heap.IsTupleIter it t i → SqT X.K H t zs →
    (∀ s', Inv X pins σ (upd H q (.lst zs)) s' → Rs (.ok (.ret .none)) s') → codeAny (model X.prog X.w) A1 (.builtin "list.extend.loop" ⟨[.ref q, .ref it, .none], []⟩) Rs s := by
  intro k
  have sz := sizeLine_eq
  induction k with
  | zero =>
    intro i H s hk hi I hq fp st ht hd
    have e : i = zs.length := by omega
    subst e
    obtain ⟨its, rv, pl, hz⟩ := I.tuple ht
    have li := rv.length
    obtain ⟨f0, f1, f2, f3, f4, f5⟩ := fp
    refine codeAny_builtin PySem.F.entry_extend_loop ?_
    rw [Around.under_plainId PySem.F.plain_extend_loop _]
    show wpAny _ A1.in1 (pyNext (.ref it) >>= _) _ _ s
    refine wpAny_bind (wpAny_pyNext_tuple_end hh st (items := its.toArray) pl (by rw [List.getElem?_toArray, List.getElem?_eq_none (by omega)]) fun h' ex => ?_)
    have I1 := I.turned (t' := s.toks) (h' := h') (fun b o nb e => ex b o nb e) f0 f1 f3 f4 f5
    rw [List.take_length] at hq
    have e : upd H q (.lst zs) = H := by
      funext b
      by_cases c : b = q
      · rw [c, upd_same, hq]
      · rw [upd_ne c]
    exact wpAny_pure (hd _ (by rw [e]; exact I1))
  | succ k ih =>
    intro i H s hk hi I hq fp st ht hd
    have lt : i < zs.length := by omega
    obtain ⟨its, rv, pl, hz⟩ := I.tuple ht
    obtain ⟨u, hu, ru⟩ := rv.get (List.getElem?_eq_getElem lt)
    obtain ⟨f0, f1, f2, f3, f4, f5⟩ := id fp
    refine codeAny_builtin PySem.F.entry_extend_loop ?_
    rw [Around.under_plainId PySem.F.plain_extend_loop _]
    show wpAny _ A1.in1 (pyNext (.ref it) >>= _) _ _ s
    refine wpAny_bind (wpAny_pyNext_tuple_item st (items := its.toArray) pl (x := u) (by simpa using hu) fun h' st' sb => ?_)
    have I1 := I.turned (t' := s.toks) (h' := h') (fun b o nb e => (sb.2 b nb).trans e) f0 f1 f3 f4 f5
    obtain ⟨z, ls, kk, r2, hl, e⟩ := I1.lstM hq
    have ll := r2.length
    rw [List.length_take] at ll
    show wpAny _ A1.in1 (updateSeq q (·.push u) >>= _) _ _ _
    have nq : it ≠ q := fun c => by rw [← c, f0] at hq; cases hq
    refine wpAny_bind (wpAny_updateSeq e rfl (wpAny_pure ⟨plainId_quiet PySem.F.plain_extend_loop _, ?_⟩) (by rw [List.size_toArray]; omega) (by show (ls.toArray.push u).size ≤ sizeLine + 1; rw [Array.size_push, List.size_toArray]; omega))
    have I2 := I1.lset (f := (·.push u)) (its' := ls ++ [u]) (t' := s.toks) hq e (by simp) (r2.append (.cons ru .nil)) (by rw [List.length_append, List.length_singleton, List.length_take]; omega)
    have tk : zs.take i ++ [zs[i]] = zs.take (i + 1) := by rw [List.take_add_one, List.getElem?_eq_getElem lt]; rfl
    rw [tk] at I2
    refine ih (i + 1) _ _ (by omega) lt I2 upd_same ⟨by rw [upd_ne nq]; exact f0, f1, f2, f3, f4, f5⟩ (ti_at st' fun o e => ?_) ?_ fun s' I' => hd s' (by rw [upd_upd] at I'; exact I')
    · exact (Heap.get?_update_other _ _ (Ne.symm nq)).trans e
    · rcases ht with (w1 | ⟨o, w2⟩) | w3
      · refine .inl (.inl ?_)
        rw [upd_ne fun c => by rw [c, hq] at w1; cases w1]
        exact w1
      · refine .inl (.inr ⟨o, ?_⟩)
        rw [upd_ne fun c => by rw [c, hq] at w2; cases w2]
        exact w2
      · exact .inr w3
end
end Li
namespace Li
open PySem PySem.Spec PyProof.Rows L2 ItX
section
variable {X : Cx} {C fi fl : Addr} {spI spL : Sp} {EI EL : XK} {n : Nat}
/-- a def that never raises, called anywhere within -/
theorem sure_at {A : Around} {Q : VK} {E : XK} {g : Addr} {sp : Sp} {us : List Value} {ws : List V} {pins : List (Addr × Obj)} {σ : L2.St} {H : Hp} {s : Shared} (F : FnR X.prog X.w X.K X.mg X.base CX0 n g sp) (hr : Room n A) (e0 : Env0 X.prog X.w X.K X.mg X.base A X.stack s H) (I : Inv X pins σ H s)
    (r : Vals ws us) (h : sp ws H Q E) : codeAny (model X.prog X.w) A (.call (.ref g) ⟨us, []⟩) (fun r s' => match r with | .ok (.ret v) => EP X pins σ Q v s' | .ok _ => False | .error _ => False) s := by
  refine codeAny_mono (F A X.stack s H us ws Q E hr e0 r h) fun r s' z => ?_
  match r, z with
  | .ok (.ret _), z => exact I.after z
  | .ok .next, z => exact z.elim
  | .ok .brk, z => exact z.elim
  | .ok .cont, z => exact z.elim
  | .error _, z => exact z.elim
/-- list(x): its __iter__ gives an iterator of a tuple, its __len__ a number -/
def rListIt (K : PySem.W.Frag) (C : Addr) (spI spL : Sp) (EI EL : XK) : List V → Hp → VK → Prop := fun xs H Q => ∃ a dx fs, xs = [.ref a] ∧ H a = some (.ins C dx fs) ∧ ∀ q, H q = none → spI [.ref a] (upd H q (.lst []))
  (fun v H1 => ∃ it t zs, v = .ref it ∧ H1 it = some (TiO t it) ∧ q < it ∧ SqT K H1 t zs ∧ zs.length ≤ 1000 ∧ H1 q = some (.lst []) ∧ H1 a = some (.ins C dx fs) ∧
    spL [.ref a] H1 (fun z H2 => ∃ i : Int, z = .int i ∧ 0 ≤ i ∧ i < 1000 ∧ H2 = H1 ∧ Q (.ref q) (upd (dropH H1 it) q (.lst zs))) EL) EI
theorem call_listIt (hs : PySem.W.findIn X.K (.ref C) "__iter__" = some (some (.ref fi))) (hf : PySem.W.isFn X.K (.ref fi) = true) (hl : PySem.W.findIn X.K (.ref C) "__len__" = some (some (.ref fl))) (hlf : PySem.W.isFn X.K (.ref fl) = true)
    (FI : FnR X.prog X.w X.K X.mg X.base CX0 n fi spI) (FL : FnR X.prog X.w X.K X.mg X.base CX0 n fl spL) (hc : X.calm = true) (hr : Room (n + 4) X.A) : CallR X (.type "list") (rListIt X.K C spI spL EI EL) := by
  intro pins s σ H xs us Q I rv h
  obtain ⟨a, dx, fs, rfl, ha, hq⟩ := h
  obtain ⟨u, rfl, ru⟩ := rv.one
  cases (show u = Value.ref a from ru)
  have sb : Sub X (n + 1) X.A.in1.in1.in1 := Sub.in1 (Sub.in1 (Sub.in1 ⟨hr, rfl⟩))
  refine callType_codes (Q₁ := fun obj s₁ => obj = .ref s.heap.objs.size ∧ s₁ = { s with heap := s.heap.push { cls := .type "list", data := .seq #[] } })
    PySem.F.called_list (PySem.F.typeCall_list_1 _) PySem.F.entry_list_init (code_list_new _ ⟨rfl, rfl⟩) fun obj s₁ h₁ => ?_
  obtain ⟨rfl, rfl⟩ := h₁
  have hS : (s.heap.push { cls := .type "list", data := .seq #[] }).get? s.heap.objs.size = some { cls := .type "list", data := .seq #[] } := Heap.get?_push_size _ rfl
  refine ⟨⟨_, hS, rfl⟩, PySem.F.args_list_init_2 _ _, ?_⟩
  have fr : H s.heap.objs.size = none := I.hok.fresh (Nat.le_refl _)
  have hsp := hq _ fr
  have young : X.s_0.heap.objs.size ≤ s.heap.objs.size := I.sz
  have I1 : Inv X pins σ (upd H s.heap.objs.size (.lst [])) { s with heap := s.heap.push { cls := .type "list", data := .seq #[] } } := I.lnew (its := []) (t' := s.toks) .nil (Nat.zero_le _)
  show wpAny _ _ (Builtin.List.listItems (.ref s.heap.objs.size) >>= fun old => Builtin.List.listUpdate (.ref s.heap.objs.size) (fun _ => #[]) >>= fun _ => letGo old.toList.reverse >>= fun _ => Builtin.List.listExtendWith (.ref s.heap.objs.size) (.ref a) .none) _ _ _
  refine wpAny_bind ?_
  unfold Builtin.List.listItems
  refine wpAny_bind (wpAny_seqItems hS rfl (wpAny_pure ?_))
  show wpAny _ _ (updateSeq s.heap.objs.size (fun _ => #[]) >>= fun _ => letGo (#[] : Array Value).toList.reverse >>= fun _ => Builtin.List.listExtendWith (.ref s.heap.objs.size) (.ref a) .none) _ _ _
  refine wpAny_bind (wpAny_updateSeq hS rfl ?_)
  have I2 := I1.lset (f := fun _ => #[]) (its := []) (its' := []) (ys := []) (t' := s.toks) upd_same hS rfl .nil (Nat.zero_le _)
  rw [upd_upd] at I2
  refine wpAny_bind (wpAny_letGo ?_)
  have ha2 : upd H s.heap.objs.size (.lst []) a = some (.ins C dx fs) := by rw [upd_ne (ne_of_none ha fr)]; exact ha
  have nqa : s.heap.objs.size ≠ a := (ne_of_none ha fr).symm
  have low : s.heap.objs.size < ({ s with heap := (s.heap.push { cls := .type "list", data := .seq #[] }).update s.heap.objs.size (Obj.mapSeq fun _ => #[]) } : Shared).heap.objs.size := (I2.hok _ _ upd_same).lt
  generalize hq0 : s.heap.objs.size = q at *
  generalize ({ s with heap := (s.heap.push { cls := .type "list", data := .seq #[] }).update q (Obj.mapSeq fun _ => #[]) } : Shared) = s1 at *
  generalize hH1 : upd H q (.lst []) = H1 at *
  have hq1 : H1 q = some (.lst []) := by rw [← hH1]; exact upd_same
  obtain ⟨ox, od, J⟩ := Ow.ins_at I2 ha2
  obtain ⟨m0, hF⟩ := I2.fr
  unfold Builtin.List.listExtendWith
  refine wpAny_bind (J.type.here ?_)
  have b1 : Builtin.List.listSameRef (.ref q) (.ref a) = false := by simp [Builtin.List.listSameRef, nqa]
  have b2 : (Value.ref C == Value.type "list") = false ∧ (Value.ref C == Value.type "tuple") = false := ⟨rfl, rfl⟩
  simp only [b1, b2.1, b2.2, Bool.or_false, Bool.false_eq_true, if_false]
  refine wpAny_bind (PySem.W.owit_iter hF I2.ok.mod.kin J hs hf ?_)
  have env : ∀ {s2 : Shared} {H2 : Hp}, Inv X pins σ H2 s2 → Env0 X.prog X.w X.K X.mg X.base X.A.in1.in1 X.stack s2 H2 := fun I => by
    have e := I.env0
    exact ⟨e.frames, e.mod, e.bs, e.bsz, e.funs, e.frf, e.hok, e.bare⟩
  have room0 : Room (n + 1) X.A.in1.in1 := (hr.in1.in1).mono (by omega)
  have room1 : Room n X.A.in1.in1 := room0.mono (by omega)
  refine wpAny_mono (wpAny_call (sure_at (us := [.ref a]) (ws := [.ref a]) FI room1 (env I2) I2 (.cons rfl .nil) hsp)) (fun v s3 hv => ?_) fun _ _ x => x.elim
  obtain ⟨v', H3, I3, rv3, it, t, zs, rfl, hit, qlt, ht, few, hq3, ha3, hsp2⟩ := hv
  cases (show v = Value.ref it from rv3)
  have st3 : s3.heap.IsTupleIter it t 0 := (I3.hok it _ hit).1
  unfold PySem.W.OwitIt
  refine wpAny_specialOf (name := Str.ofString "__next__") st3.typeIs PySem.F.slot_tuple_iterator_next.lookup ?_
  refine wpAny_bind (wpAny_holding ?_)
  unfold Builtin.List.listLengthHint
  obtain ⟨ox3, od3, J3⟩ := Ow.ins_at I3 ha3
  obtain ⟨m3, hF3⟩ := I3.fr
  refine wpAny_bind (wpAny_bind (J3.type.here ((PySem.W.looks_findIn I3.kIn hl).here ?_)))
  refine PySem.W.KFB.if_not rfl ?_
  refine wp_if_pos rfl (wpAny_bind (wpAny_rule (wpAny_bind (wpAny_attempt ?_))))
  refine PySem.W.len_K hF3 I3.ok.mod.kin J3 hl hlf (wpAny_mono (wpAny_call (sure_at (us := [.ref a]) (ws := [.ref a]) FL (room0.in1) (env I3).in1 I3 (.cons rfl .nil) hsp2)) (fun w s4 z => ?_) fun _ _ x => x.elim)
  obtain ⟨z', H4, I4, rz, i, rfl, h0, h1, rfl, qz⟩ := z
  obtain ⟨tk, e⟩ := (show ∃ tk, w = Value.int i tk from rz)
  cases e
  refine ⟨⟨h0, by omega⟩, ?_⟩
  dsimp only
  refine wpAny_bind (wpAny_of_eq (a := some i) rfl ?_)
  have sl := sizeLine_eq
  refine wp_if_neg (by unfold Builtin.List.listTooLong; rw [decide_eq_true_eq]; omega) (wpAny_pure ?_)
  have I5 := inv_drop (I4.tok (s4.toks + 1)) hit
  have fp : FpOk X pins (dropH H4 it) it := inv_fp I4 hit (Nat.le_trans young (Nat.le_of_lt qlt))
  have nqi : q ≠ it := Nat.ne_of_lt qlt
  have hq5 : dropH H4 it q = some (.lst []) := (dropH_ne nqi).trans hq3
  have ht5 : SqT X.K (dropH H4 it) t zs := by
    rcases ht with (w1 | ⟨o, w2⟩) | w3
    · refine .inl (.inl ((dropH_ne fun c => ?_).trans w1))
      rw [c, hit] at w1
      cases w1
    · refine .inl (.inr ⟨o, (dropH_ne fun c => ?_).trans w2⟩)
      rw [c, hit] at w2
      cases w2
    · exact .inr w3
  have st5 : s4.heap.IsTupleIter it t 0 := (I4.hok it _ hit).1
  have hh : X.A.in1.in1.handled = none := by simp [I.ok.hd hc]
  have go : ∀ s6 : Shared, Inv X pins σ (dropH H4 it) s6 → s6.heap.IsTupleIter it t 0 → codeAny (model X.prog X.w) X.A.in1 (.builtin "list.extend.loop" ⟨[.ref q, .ref it, .none], []⟩) (wants (fun r s₂ => r = .none ∧ EP X pins σ Q (.ref q) s₂) X.xe) s6 := fun s6 I6 st6 =>
    fill (zs := zs) hh few (zs.length - 0) 0 _ s6 rfl (Nat.zero_le _) I6 hq5 fp st6 ht5 fun s7 I7 => ⟨rfl, ⟨.ref q, _, I7, rfl, qz⟩⟩
  refine wpAny_ite_split (fun _ => ?_) fun _ => wpAny_pure ⟨plainId_quiet PySem.F.plain_extend_loop _, go _ I5 st5⟩
  refine wpAny_bind (wpAny_rule (wpAny_bind ?_))
  obtain ⟨z5, its5, k5, r5, l5, e5⟩ := I5.lstM hq5
  cases r5
  show wpAny _ _ (updateSeq q (·.push Value.none) >>= fun _ => updateSeq q (·.pop)) _ _ _
  refine wpAny_bind (wpAny_updateSeq e5 rfl ?_)
  have I6 := I5.lset (f := (·.push Value.none)) (its' := [Value.none]) (ys := [.non]) (t' := s4.toks + 1) hq5 e5 (by simp) (.cons rfl .nil) (by rw [List.length_singleton, sl]; decide)
  obtain ⟨z6, its6, k6, r6, l6, e6⟩ := I6.lstM upd_same
  obtain ⟨u6, rfl, ru6⟩ := r6.one
  refine wpAny_updateSeq e6 rfl ?_ (by show 1 ≤ sizeLine; rw [sl]; decide) (by show 0 ≤ sizeLine + 1; exact Nat.zero_le _)
  have I7 := I6.lset (f := (·.pop)) (its := [u6]) (its' := []) (ys := []) (t' := s4.toks + 1) upd_same e6 (by rfl) .nil (Nat.zero_le _)
  rw [upd_upd, show upd (dropH H4 it) q (.lst []) = dropH H4 it from funext fun b => by
    by_cases c : b = q
    · rw [c, upd_same, hq5]
    · rw [upd_ne c]] at I7
  refine wpAny_pure ⟨plainId_quiet PySem.F.plain_extend_loop _, go _ I7 (ti_at st5 fun o e => ?_)⟩
  exact (Heap.get?_update_other _ _ nqi).trans ((Heap.get?_update_other _ _ nqi).trans e)
end
end Li
/-! for .. in x, x an instance whose __iter__ gives iter(tuple). -/
namespace Li
open PySem PySem.Spec PyProof.Rows L2 ItX
section
variable {X : Cx} {C fi : Addr} {spI : Nat → Sp} {EI : XK} {n : Nat} {tg : Expr}
/-- a def whose promise knows how many objects there are when it is called -/
def FnA (P : Program) (w : World) (K : PySem.W.Frag) (mg : Str → Option Value) (base : Heap) (n : Nat) (g : Addr) (sp : Nat → Sp) : Prop :=
  ∀ (A : Around) (outer : List Env) (s : Shared) (H : Hp) (us : List Value) (vs : List V) (Q : VK) (E : XK), Room n A → Env0 P w K mg base A outer s H → Vals vs us → sp s.heap.objs.size vs H Q E →
    codeAny (model P w) A (.call (.ref g) ⟨us, []⟩) (CR CX0 outer P w H s Q E) s
theorem fnA_of {P : Program} {w : World} {K : PySem.W.Frag} {mg : Str → Option Value} {base : Heap} {x qual : Str} {st : Stmt} {g : Addr} {fd : FuncData} {N ps : List Str} {k : Nat} {sp : Nat → Sp} (F : Fun K x qual st g fd) (S : FnScope N ps (defScope st)) (B : Binds K fd ps [])
    (len : ∀ n vs H Q E, sp n vs H Q E → vs.length = ps.length)
    (body : ∀ (cdv : Value) (A : Around) (outer : List Env) (s : Shared) (H : Hp) (vs : List V) (Q : VK) (E : XK), Room k (A.deeper (envOfC qual (defScope st) s.heap.objs.size g cdv)) → sp s.heap.objs.size vs H Q E →
      ∃ t, PSs (cxOf CX0 P w K mg base N qual (defScope st) g cdv A outer s H E) (defBody st) t ∧ t { nx := fun _ H' => Q .non H', rt := Q } (start N vs) H) : FnA P w K mg base (k + 1) g sp := by
  obtain ⟨oc, od, kV, doc, pm, an, cdv, ct, osl, rfl, lk, hcd⟩ := F.ex
  intro A outer s H us vs Q E hr e0 r hsp
  have hl := len _ _ _ _ _ hsp
  have KX : K.In s.heap := e0.mod.kin.keeps fun b o e => (e0.bs b o e).1
  have bd := B s us KX (by rw [List.append_nil, ← r.length]; exact hl)
  rw [List.append_nil] at bd
  refine codeAny_call_function hr.depth (KX _ _ lk) rfl S.co S.gen rfl (PySem.W.codeRec_of KX hcd) (bd _ _ _ _ ?_)
  refine wpAny_newFunctionEnv_cells S.kind (fun y hy => ?_) fun env he s1 fresh => ?_
  · rcases S.par y.1 (List.of_mem_zip (show (y.1, y.2) ∈ ps.zip us from hy)).1 with q | q
    · exact .inl q
    · exact .inr ⟨q, PySem.W.cellsFrom_some _ _ _ (.inl q)⟩
  subst he
  refine ⟨(e0.mod.nolimit.keeps fun b o e => (e0.bs b o e).1).keeps fresh.toInCall.keep, codeAny_func ?_⟩
  obtain ⟨t, ht, hq⟩ := body _ A outer s H vs Q E (hr.deeper _) hsp
  refine wpAny_mono (ht.run [] s1 (start N vs) H _ (inv_start S hr.hd e0 hl r fresh) hq) (fun fl s' hs => ?_) fun e s' hs => hs
  match fl, hs with
  | .ret _, ⟨v, _, H', J, rv, q⟩ => exact ⟨v, H', J.os, J.bare, J.base, J.hok, rv, q⟩
  | .next, ⟨_, H', J, q⟩ => exact ⟨V.non, H', J.os, J.bare, J.base, J.hok, rfl, q⟩
  | .brk, ⟨_, _, _, q⟩ => exact q.elim
  | .cont, ⟨_, _, _, q⟩ => exact q.elim
/-- iter(t), n: how many objects there were -/
def rIterN (K : PySem.W.Frag) (n : Nat) : List V → Hp → VK → Prop := fun xs H Q => ∃ (t : Addr) (zs : List V), xs = [.ref t] ∧ SqT K H t zs ∧ ∀ it, H it = none → n ≤ it → Q (.ref it) (upd H it (TiO t it))
theorem call_iterN {X : Cx} : CallR X (.builtin "iter") (rIterN X.K X.s_0.heap.objs.size) := by
  intro pins s σ H xs us Q I r h
  obtain ⟨t, zs, rfl, hq, q⟩ := h
  obtain ⟨u, rfl, ru⟩ := r.one
  cases (show u = Value.ref t from ru)
  obtain ⟨its, rv, pl, hz⟩ := I.tuple hq
  refine Calls.call_function_entry (by decide +kernel) (by decide +kernel) PySem.W.kdk_entry_iter (PySem.W.kdk_args_iter _) ?_
  unfold Builtin.«iter»
  refine wpAny_bind (m := someArgs "iter" 1 2 _) (wpAny_of_eq (a := [Value.ref t]) (by first | rfl | kernel_rfl!) ?_)
  show wpAny _ _ (pyIter (.ref t) >>= _) _ _ _
  refine wpAny_bind (wpAny_pyIter_tuple (items := its.toArray) pl (wpAny_pure ⟨_, rfl, ?_⟩))
  exact ⟨.ref s.heap.objs.size, _, I.laid (t' := s.toks) (fun b u e => Heap.get?_push_of_some _ e) (Nat.le_refl _) (ti_ok ⟨_, Heap.get?_push_size _ rfl, rfl, rfl⟩), rfl, q _ (I.hok.fresh (Nat.le_refl _)) I.sz⟩
/-- such a def, called -/
theorem sure_A {X : Cx} {n : Nat} {A : Around} {Q : VK} {E : XK} {g : Addr} {sp : Nat → Sp} {us : List Value} {ws : List V} {pins : List (Addr × Obj)} {σ : L2.St} {H : Hp} {s : Shared} (F : FnA X.prog X.w X.K X.mg X.base n g sp) (hr : Room n A) (e0 : Env0 X.prog X.w X.K X.mg X.base A X.stack s H) (I : Inv X pins σ H s)
    (r : Vals ws us) (h : sp s.heap.objs.size ws H Q E) : codeAny (model X.prog X.w) A (.call (.ref g) ⟨us, []⟩) (fun r s' => match r with | .ok (.ret v) => EP X pins σ Q v s' | .ok _ => False | .error _ => False) s := by
  refine codeAny_mono (F A X.stack s H us ws Q E hr e0 r h) fun r s' z => ?_
  match r, z with
  | .ok (.ret _), z => exact I.after z
  | .ok .next, z => exact z.elim
  | .ok .brk, z => exact z.elim
  | .ok .cont, z => exact z.elim
  | .error _, z => exact z.elim
def iOwnT (K : PySem.W.Frag) (C : Addr) (spI : Nat → Sp) (EI : XK) (tl : TE) : TI := fun σ H R => tl σ H fun x H1 => ∃ a dx fs, x = .ref a ∧ H1 a = some (.ins C dx fs) ∧
  ∀ m, spI m [.ref a] H1 (fun v H2 => ∃ it t zs, v = .ref it ∧ m ≤ it ∧ H2 it = some (TiO t it) ∧ SqT K H2 t zs ∧ R (Itt K t) (dropH H2 it)) EI
theorem pi_ownT (hs : PySem.W.findIn X.K (.ref C) "__iter__" = some (some (.ref fi))) (hf : PySem.W.isFn X.K (.ref fi) = true) (FI : FnA X.prog X.w X.K X.mg X.base n fi spI) (hr : Room n X.A) {l : Expr} {tl : TE} (hl : PE X l tl) : PI X tg l (iOwnT X.K C spI EI tl) := by
  refine ⟨fun pins s σ H R I h => ?_⟩
  refine thn (hl.run pins s σ H _ I h) fun v s1 ⟨x, H1, I1, r1, q1⟩ => ?_
  obtain ⟨a, dx, fs, e, ha, hsp⟩ := q1
  subst e
  cases r1
  obtain ⟨ox, od, J⟩ := Ow.ins_at I1 ha
  obtain ⟨m0, hF⟩ := I1.fr
  refine PySem.W.owit_iter hF I1.ok.mod.kin J hs hf ?_
  refine wpAny_mono (wpAny_call (sure_A (us := [.ref a]) (ws := [.ref a]) FI hr I1.env0 I1 (.cons rfl .nil) (hsp _))) (fun v s3 hv => ?_) fun _ _ x => x.elim
  obtain ⟨v', H3, I3, rv3, it, t, zs, rfl, yg, hit, ht, q⟩ := hv
  cases (show v = Value.ref it from rv3)
  have st3 : s3.heap.IsTupleIter it t 0 := (I3.hok it _ hit).1
  unfold PySem.W.OwitIt
  refine wpAny_specialOf (name := Str.ofString "__next__") st3.typeIs PySem.F.slot_tuple_iterator_next.lookup ?_
  refine ⟨it, [it], _, _, dropH H3 it, rfl, inv_drop I3 hit, turn_tuple t it, st3, fun b hb => ?_, q⟩
  have e : b = it := by simpa using hb
  rw [e]
  exact inv_fp I3 hit (Nat.le_trans I1.sz yg)
variable {CX : CXT} {k : Nat} {f : Addr} {fd : FuncData} {ps : List Str} {sp : Sp} {e : Expr} {es : List Expr} {t : TA} {x : Str} {p pos : Pos} {ds : List Value} {dvs : List V}
/-- pe_callS of a def with defaults -/
theorem pe_callSD {E : L2.St → XK} (F : FnOk X.prog X.w X.K X.mg X.base CX k f fd ps sp) (hr : Room k X.A) (hg : Gl X x) (hm : X.mg x = some (.ref f)) (hk : PySem.W.keepIn X.K (.ref f) = true) (hb : Binds X.K fd ps ds) (hd : Vals dvs ds) (hx : ∀ σ, PassesAt CX X σ (E σ))
    (ha : PA X (e :: es) t) (hdb : (x == ("__debug__" : Str)) = false := by decide) (he : starEach (e :: es) X.env = (false, eval e X.env) :: starEach es X.env := by rfl) (hpl : (backTo pos (starEach es X.env)).any (·.1) = false := by rfl) :
    PE X (.Call (.Name x p) (e :: es) [] pos) (tCallS (fun vs H Q E => sp (vs ++ dvs) H Q E) E t) := by
  refine ⟨fun pins s σ H Q I h => ?_⟩
  refine wpAny_Call_Name_kw (ld_glob I hg hm ?_ hdb)
  refine PySem.W.callWith_K (h₀ := X.base) I.ok.mod.kin hk (thn (ha.run pos pins s σ H _ I h) fun us s1 ⟨vs, H1, I1, r, q⟩ => ⟨I1.kIn, ?_⟩) he hpl
  refine wpAny_call (codeAny_mono (F.raw hb hd X.A X.stack s1 H1 us vs Q (E σ) hr I1.env0 r q) fun r s' hq => ?_)
  cases r with
  | error e => exact hx σ pins H1 s1 e s' I1 hq
  | ok fl =>
    cases fl with
    | ret u => exact I1.after hq
    | next => exact False.elim hq
    | brk => exact False.elim hq
    | cont => exact False.elim hq
end
end Li

/-! iter(text) as a value; list(x), x with an __iter__ that gives such a one, and an own __len__; yield from a list. -/
namespace Si2
open PySem PySem.Spec PyProof.Rows L2 ItX
abbrev AIt (h : Heap) (it : Addr) (x : Str) (i : Nat) : Prop := ∃ t, h.IsStrIter it "str_ascii_iterator" x t i
def sgs (x : Str) : List V := x.cps.toList.map fun c => V.str ⟨#[c]⟩
/-- an iterator of the text x, not begun -/
def SiO (x : Str) (it : Addr) : HO := .ext fun h => AIt h it x 0
theorem si_at {h h' : Heap} {it : Addr} {x : Str} {i : Nat} (y : AIt h it x i) (k : ∀ o, h.get? it = some o → h'.get? it = some o) : AIt h' it x i := by
  obtain ⟨t, o, e, r⟩ := y
  exact ⟨t, o, k o e, r⟩
theorem si_ok {P : Program} {w : World} {H : Hp} {h : Heap} {it : Addr} {x : Str} (y : AIt h it x 0) : ObjOk P w H h it (SiO x it) :=
  ⟨y, by obtain ⟨_, o, e, _⟩ := y; exact ⟨o, e⟩, fun _ _ p k => si_at p k⟩
theorem ai_ty {s : Shared} {it : Addr} {x : Str} {i : Nat} (y : AIt s.heap it x i) : s.TypeIs (.ref it) "str_ascii_iterator" := let ⟨_, o, e, c, _⟩ := y; ⟨o, e, c⟩
def rIterS : List V → Hp → VK → Prop := fun xs H Q => ∃ x : Str, xs = [.str x] ∧ x.cps.all (· < 128) = true ∧ ∀ it, H it = none → (∀ b o, H b = some o → b < it) → Q (.ref it) (upd H it (SiO x it))
section
variable {X : Cx}
theorem call_iterS : CallR X (.builtin "iter") rIterS := by
  intro pins s σ H xs us Q I r h
  obtain ⟨x, rfl, ha, q⟩ := h
  obtain ⟨u, rfl, ru⟩ := r.one
  obtain ⟨t, rfl⟩ := ru
  refine Calls.call_function_entry (by decide +kernel) (by decide +kernel) PySem.W.kdk_entry_iter (PySem.W.kdk_args_iter _) ?_
  unfold Builtin.«iter»
  refine wpAny_bind (m := someArgs "iter" 1 2 _) (wpAny_of_eq (a := [Value.str x t]) (by first | rfl | kernel_rfl!) ?_)
  show wpAny _ _ (pyIter (.str x t) >>= _) _ _ _
  refine wpAny_bind (wpAny_pyIter_ascii ha (wpAny_pure ⟨_, rfl, ?_⟩))
  refine ⟨.ref s.heap.objs.size, _, I.laid (t' := s.toks) (fun b u e => Heap.get?_push_of_some _ e) (Nat.le_refl _) (si_ok ⟨t, _, Heap.get?_push_size _ rfl, rfl, rfl⟩), rfl, q _ (I.hok.fresh (Nat.le_refl _)) fun b o e => ?_⟩
  exact (I.hok b o e).lt
end
section
variable {X : Cx} {pins : List (Addr × Obj)} {σ : L2.St} {q it : Addr} {x : Str} {A1 : Around} {Rs : Result → Shared → Prop}
/-- the list at q takes what the iterator gives -/
theorem fill (hh : A1.in1.handled = none) (few : (sgs x).length ≤ 1000) : ∀ (k i : Nat) (H : Hp) (s : Shared), (sgs x).length - i = k → i ≤ (sgs x).length → Inv X pins σ H s → H q = some (.lst ((sgs x).take i)) → FpOk X pins H it → AIt s.heap it x i →
    (∀ s', Inv X pins σ (upd H q (.lst (sgs x))) s' → Rs (.ok (.ret .none)) s') → codeAny (model X.prog X.w) A1 (.builtin "list.extend.loop" ⟨[.ref q, .ref it, .none], []⟩) Rs s := by
  intro k
  have sz := sizeLine_eq
  induction k with
  | zero =>
    intro i H s hk hi I hq fp st hd
    have e : i = (sgs x).length := by omega
    subst e
    obtain ⟨t, st⟩ := st
    obtain ⟨f0, f1, f2, f3, f4, f5⟩ := fp
    refine codeAny_builtin PySem.F.entry_extend_loop ?_
    rw [Around.under_plainId PySem.F.plain_extend_loop _]
    show wpAny _ A1.in1 (pyNext (.ref it) >>= _) _ _ s
    refine wpAny_bind (wpAny_pyNext_ascii_end hh st (Array.getElem?_eq_none (by rw [← Array.length_toList]; show x.cps.toList.length ≤ (sgs x).length; simp [sgs])) fun h' ex => ?_)
    have I1 := I.turned (t' := s.toks) (h' := h') (fun b o nb e => ex b o nb e) f0 f1 f3 f4 f5
    rw [List.take_length] at hq
    have e : upd H q (.lst (sgs x)) = H := by
      funext b
      by_cases c : b = q
      · rw [c, upd_same, hq]
      · rw [upd_ne c]
    exact wpAny_pure (hd _ (by rw [e]; exact I1))
  | succ k ih =>
    intro i H s hk hi I hq fp st hd
    have lt : i < (sgs x).length := by omega
    obtain ⟨t, st⟩ := st
    have lt2 : i < x.cps.size := by rw [← Array.length_toList]; simpa [sgs] using lt
    obtain ⟨f0, f1, f2, f3, f4, f5⟩ := id fp
    refine codeAny_builtin PySem.F.entry_extend_loop ?_
    rw [Around.under_plainId PySem.F.plain_extend_loop _]
    show wpAny _ A1.in1 (pyNext (.ref it) >>= _) _ _ s
    refine wpAny_bind (wpAny_pyNext_ascii_item st (c := x.cps[i]) (Array.getElem?_eq_getElem lt2) fun h' st' sb => ?_)
    have I1 := I.turned (t' := s.toks + 1) (h' := h') (fun b o nb e => (sb.2 b nb).trans e) f0 f1 f3 f4 f5
    obtain ⟨z, ls, kk, r2, hl, e⟩ := I1.lstM hq
    have ll := r2.length
    rw [List.length_take] at ll
    show wpAny _ A1.in1 (updateSeq q (·.push (.str ⟨#[x.cps[i]]⟩ s.toks)) >>= _) _ _ _
    have nq : it ≠ q := fun c => by rw [← c, f0] at hq; cases hq
    refine wpAny_bind (wpAny_updateSeq e rfl (wpAny_pure ⟨plainId_quiet PySem.F.plain_extend_loop _, ?_⟩) (by rw [List.size_toArray]; omega) (by show (ls.toArray.push (.str ⟨#[x.cps[i]]⟩ s.toks)).size ≤ sizeLine + 1; rw [Array.size_push, List.size_toArray]; omega))
    have I2 := I1.lset (f := (·.push (.str ⟨#[x.cps[i]]⟩ s.toks))) (its' := ls ++ [.str ⟨#[x.cps[i]]⟩ s.toks]) (t' := s.toks + 1) hq e (by simp) (ys := (sgs x).take i ++ [V.str ⟨#[x.cps[i]]⟩]) (r2.append (.cons ⟨_, rfl⟩ .nil)) (by rw [List.length_append, List.length_singleton, List.length_take]; omega)
    have tk : (sgs x).take i ++ [V.str ⟨#[x.cps[i]]⟩] = (sgs x).take (i + 1) := by rw [List.take_add_one, List.getElem?_eq_getElem lt]; simp [sgs]
    rw [tk] at I2
    refine ih (i + 1) _ _ (by omega) lt I2 upd_same ⟨by rw [upd_ne nq]; exact f0, f1, f2, f3, f4, f5⟩ (si_at ⟨t, st'⟩ fun o e => (Heap.get?_update_other _ _ (Ne.symm nq)).trans e) fun s' I' => hd s' (by rw [upd_upd] at I'; exact I')
end
section
variable {X : Cx} {C fi fl : Addr} {spI spL : Sp} {EI EL : XK} {n : Nat}
/-- list(x): its __iter__ gives an iterator of a tuple, its __len__ a number -/
def rListItS (K : PySem.W.Frag) (C : Addr) (spI spL : Sp) (EI EL : XK) : List V → Hp → VK → Prop := fun xs H Q => ∃ a dx fs, xs = [.ref a] ∧ H a = some (.ins C dx fs) ∧ ∀ q, H q = none → spI [.ref a] (upd H q (.lst []))
  (fun v H1 => ∃ it x, v = .ref it ∧ H1 it = some (SiO x it) ∧ q < it ∧ (sgs x).length ≤ 1000 ∧ H1 q = some (.lst []) ∧ H1 a = some (.ins C dx fs) ∧
    spL [.ref a] H1 (fun z H2 => ∃ i : Int, z = .int i ∧ 0 ≤ i ∧ i < 1000 ∧ H2 = H1 ∧ Q (.ref q) (upd (dropH H1 it) q (.lst (sgs x)))) EL) EI
theorem call_listItS (hs : PySem.W.findIn X.K (.ref C) "__iter__" = some (some (.ref fi))) (hf : PySem.W.isFn X.K (.ref fi) = true) (hl : PySem.W.findIn X.K (.ref C) "__len__" = some (some (.ref fl))) (hlf : PySem.W.isFn X.K (.ref fl) = true)
    (FI : FnR X.prog X.w X.K X.mg X.base CX0 n fi spI) (FL : FnR X.prog X.w X.K X.mg X.base CX0 n fl spL) (hc : X.calm = true) (hr : Room (n + 4) X.A) : CallR X (.type "list") (rListItS X.K C spI spL EI EL) := by
  intro pins s σ H xs us Q I rv h
  obtain ⟨a, dx, fs, rfl, ha, hq⟩ := h
  obtain ⟨u, rfl, ru⟩ := rv.one
  cases (show u = Value.ref a from ru)
  have sb : Sub X (n + 1) X.A.in1.in1.in1 := Sub.in1 (Sub.in1 (Sub.in1 ⟨hr, rfl⟩))
  refine callType_codes (Q₁ := fun obj s₁ => obj = .ref s.heap.objs.size ∧ s₁ = { s with heap := s.heap.push { cls := .type "list", data := .seq #[] } })
    PySem.F.called_list (PySem.F.typeCall_list_1 _) PySem.F.entry_list_init (code_list_new _ ⟨rfl, rfl⟩) fun obj s₁ h₁ => ?_
  obtain ⟨rfl, rfl⟩ := h₁
  have hS : (s.heap.push { cls := .type "list", data := .seq #[] }).get? s.heap.objs.size = some { cls := .type "list", data := .seq #[] } := Heap.get?_push_size _ rfl
  refine ⟨⟨_, hS, rfl⟩, PySem.F.args_list_init_2 _ _, ?_⟩
  have fr : H s.heap.objs.size = none := I.hok.fresh (Nat.le_refl _)
  have hsp := hq _ fr
  have young : X.s_0.heap.objs.size ≤ s.heap.objs.size := I.sz
  have I1 : Inv X pins σ (upd H s.heap.objs.size (.lst [])) { s with heap := s.heap.push { cls := .type "list", data := .seq #[] } } := I.lnew (its := []) (t' := s.toks) .nil (Nat.zero_le _)
  show wpAny _ _ (Builtin.List.listItems (.ref s.heap.objs.size) >>= fun old => Builtin.List.listUpdate (.ref s.heap.objs.size) (fun _ => #[]) >>= fun _ => letGo old.toList.reverse >>= fun _ => Builtin.List.listExtendWith (.ref s.heap.objs.size) (.ref a) .none) _ _ _
  refine wpAny_bind ?_
  unfold Builtin.List.listItems
  refine wpAny_bind (wpAny_seqItems hS rfl (wpAny_pure ?_))
  show wpAny _ _ (updateSeq s.heap.objs.size (fun _ => #[]) >>= fun _ => letGo (#[] : Array Value).toList.reverse >>= fun _ => Builtin.List.listExtendWith (.ref s.heap.objs.size) (.ref a) .none) _ _ _
  refine wpAny_bind (wpAny_updateSeq hS rfl ?_)
  have I2 := I1.lset (f := fun _ => #[]) (its := []) (its' := []) (ys := []) (t' := s.toks) upd_same hS rfl .nil (Nat.zero_le _)
  rw [upd_upd] at I2
  refine wpAny_bind (wpAny_letGo ?_)
  have ha2 : upd H s.heap.objs.size (.lst []) a = some (.ins C dx fs) := by rw [upd_ne (ne_of_none ha fr)]; exact ha
  have nqa : s.heap.objs.size ≠ a := (ne_of_none ha fr).symm
  have low : s.heap.objs.size < ({ s with heap := (s.heap.push { cls := .type "list", data := .seq #[] }).update s.heap.objs.size (Obj.mapSeq fun _ => #[]) } : Shared).heap.objs.size := (I2.hok _ _ upd_same).lt
  generalize hq0 : s.heap.objs.size = q at *
  generalize ({ s with heap := (s.heap.push { cls := .type "list", data := .seq #[] }).update q (Obj.mapSeq fun _ => #[]) } : Shared) = s1 at *
  generalize hH1 : upd H q (.lst []) = H1 at *
  have hq1 : H1 q = some (.lst []) := by rw [← hH1]; exact upd_same
  obtain ⟨ox, od, J⟩ := Ow.ins_at I2 ha2
  obtain ⟨m0, hF⟩ := I2.fr
  unfold Builtin.List.listExtendWith
  refine wpAny_bind (J.type.here ?_)
  have b1 : Builtin.List.listSameRef (.ref q) (.ref a) = false := by simp [Builtin.List.listSameRef, nqa]
  have b2 : (Value.ref C == Value.type "list") = false ∧ (Value.ref C == Value.type "tuple") = false := ⟨rfl, rfl⟩
  simp only [b1, b2.1, b2.2, Bool.or_false, Bool.false_eq_true, if_false]
  refine wpAny_bind (PySem.W.owit_iter hF I2.ok.mod.kin J hs hf ?_)
  have env : ∀ {s2 : Shared} {H2 : Hp}, Inv X pins σ H2 s2 → Env0 X.prog X.w X.K X.mg X.base X.A.in1.in1 X.stack s2 H2 := fun I => by
    have e := I.env0
    exact ⟨e.frames, e.mod, e.bs, e.bsz, e.funs, e.frf, e.hok, e.bare⟩
  have room0 : Room (n + 1) X.A.in1.in1 := (hr.in1.in1).mono (by omega)
  have room1 : Room n X.A.in1.in1 := room0.mono (by omega)
  refine wpAny_mono (wpAny_call (Li.sure_at (us := [.ref a]) (ws := [.ref a]) FI room1 (env I2) I2 (.cons rfl .nil) hsp)) (fun v s3 hv => ?_) fun _ _ x => x.elim
  obtain ⟨v', H3, I3, rv3, it, x, rfl, hit, qlt, few, hq3, ha3, hsp2⟩ := hv
  cases (show v = Value.ref it from rv3)
  have st3 : AIt s3.heap it x 0 := (I3.hok it _ hit).1
  unfold PySem.W.OwitIt
  refine wpAny_specialOf (name := Str.ofString "__next__") (ai_ty st3) PySem.F.slot_str_ascii_iterator_next.lookup ?_
  refine wpAny_bind (wpAny_holding ?_)
  unfold Builtin.List.listLengthHint
  obtain ⟨ox3, od3, J3⟩ := Ow.ins_at I3 ha3
  obtain ⟨m3, hF3⟩ := I3.fr
  refine wpAny_bind (wpAny_bind (J3.type.here ((PySem.W.looks_findIn I3.kIn hl).here ?_)))
  refine PySem.W.KFB.if_not rfl ?_
  refine wp_if_pos rfl (wpAny_bind (wpAny_rule (wpAny_bind (wpAny_attempt ?_))))
  refine PySem.W.len_K hF3 I3.ok.mod.kin J3 hl hlf (wpAny_mono (wpAny_call (Li.sure_at (us := [.ref a]) (ws := [.ref a]) FL (room0.in1) (env I3).in1 I3 (.cons rfl .nil) hsp2)) (fun w s4 z => ?_) fun _ _ x => x.elim)
  obtain ⟨z', H4, I4, rz, i, rfl, h0, h1, rfl, qz⟩ := z
  obtain ⟨tk, e⟩ := (show ∃ tk, w = Value.int i tk from rz)
  cases e
  refine ⟨⟨h0, by omega⟩, ?_⟩
  dsimp only
  refine wpAny_bind (wpAny_of_eq (a := some i) rfl ?_)
  have sl := sizeLine_eq
  refine wp_if_neg (by unfold Builtin.List.listTooLong; rw [decide_eq_true_eq]; omega) (wpAny_pure ?_)
  have I5 := inv_drop (I4.tok (s4.toks + 1)) hit
  have fp : FpOk X pins (dropH H4 it) it := inv_fp I4 hit (Nat.le_trans young (Nat.le_of_lt qlt))
  have nqi : q ≠ it := Nat.ne_of_lt qlt
  have hq5 : dropH H4 it q = some (.lst []) := (dropH_ne nqi).trans hq3
  have st5 : AIt s4.heap it x 0 := (I4.hok it _ hit).1
  have hh : X.A.in1.in1.handled = none := by simp [I.ok.hd hc]
  have go : ∀ s6 : Shared, Inv X pins σ (dropH H4 it) s6 → AIt s6.heap it x 0 → codeAny (model X.prog X.w) X.A.in1 (.builtin "list.extend.loop" ⟨[.ref q, .ref it, .none], []⟩) (wants (fun r s₂ => r = .none ∧ EP X pins σ Q (.ref q) s₂) X.xe) s6 := fun s6 I6 st6 =>
    fill (x := x) hh few ((sgs x).length - 0) 0 _ s6 rfl (Nat.zero_le _) I6 hq5 fp st6 fun s7 I7 => ⟨rfl, ⟨.ref q, _, I7, rfl, qz⟩⟩
  refine wpAny_ite_split (fun _ => ?_) fun _ => wpAny_pure ⟨plainId_quiet PySem.F.plain_extend_loop _, go _ I5 st5⟩
  refine wpAny_bind (wpAny_rule (wpAny_bind ?_))
  obtain ⟨z5, its5, k5, r5, l5, e5⟩ := I5.lstM hq5
  cases r5
  show wpAny _ _ (updateSeq q (·.push Value.none) >>= fun _ => updateSeq q (·.pop)) _ _ _
  refine wpAny_bind (wpAny_updateSeq e5 rfl ?_)
  have I6 := I5.lset (f := (·.push Value.none)) (its' := [Value.none]) (ys := [.non]) (t' := s4.toks + 1) hq5 e5 (by simp) (.cons rfl .nil) (by rw [List.length_singleton, sl]; decide)
  obtain ⟨z6, its6, k6, r6, l6, e6⟩ := I6.lstM upd_same
  obtain ⟨u6, rfl, ru6⟩ := r6.one
  refine wpAny_updateSeq e6 rfl ?_ (by show 1 ≤ sizeLine; rw [sl]; decide) (by show 0 ≤ sizeLine + 1; exact Nat.zero_le _)
  have I7 := I6.lset (f := (·.pop)) (its := [u6]) (its' := []) (ys := []) (t' := s4.toks + 1) upd_same e6 (by rfl) .nil (Nat.zero_le _)
  rw [upd_upd, show upd (dropH H4 it) q (.lst []) = dropH H4 it from funext fun b => by
    by_cases c : b = q
    · rw [c, upd_same, hq5]
    · rw [upd_ne c]] at I7
  refine wpAny_pure ⟨plainId_quiet PySem.F.plain_extend_loop _, go _ I7 (si_at st5 fun o e => ?_)⟩
  exact (Heap.get?_update_other _ _ nqi).trans ((Heap.get?_update_other _ _ nqi).trans e)
end

section
variable {prog : Program} {w : World} {A : Around} {E : Value → Shared → Prop} {s : Shared}
theorem special_lst_item {it l : Addr} {i : Nat} {items : Array Value} {x : Value} {Q : Option Value → Shared → Prop} (hit : s.heap.IsListIter it l i) (hl : s.heap.IsList l items) (hx : items[i]? = some x)
    (hQ : ∀ h', h'.IsListIter it l (i + 1) → Heap.SameBut it s.heap h' → Q (some x) { s with heap := h' }) : wpAny (model prog w) A (callSpecial? (.ref it) "__next__") Q E s := by
  obtain ⟨o, ho, hc, hd⟩ := id hit
  obtain ⟨ol, hol, _, nl, hdl⟩ := hl
  refine wpAny_callSpecial?_slot (name := Str.ofString "__next__") hit.typeIs slot_listiter_next (wpAny_call_entry slot_listiter_next hit.typeIs entry_listiter_next ?_ (args_listiter_next _))
  show wpAny _ _ (field (.ref it) 0 >>= _) _ _ s
  refine wpAny_bind (wpAny_field ho hd (x := .ref l) rfl ?_)
  show wpAny _ _ (if (Value.ref l == Value.none) = true then _ else _) _ _ s
  rw [if_neg (show ¬ ((Value.ref l == Value.none) = true) from Bool.false_ne_true)]
  show wpAny _ _ (field (.ref it) 1 >>= _) _ _ s
  refine wpAny_bind (wpAny_field ho hd (x := .int i 0) rfl ?_)
  show wpAny _ _ (seqItems? (.ref l) >>= _) _ _ s
  refine wpAny_bind (wpAny_seqItems hol hdl ?_)
  simp only [Int.toNat_natCast, hx]
  refine wpAny_bind (wpAny_setField ho hd (by simp) (wpAny_pure ⟨x, rfl, hQ _ ?_ (Heap.SameBut.update ..)⟩))
  exact ⟨_, Heap.get?_update_self _ ho (Obj.isFreed_of_fields (Obj.data_mapFields hd _)), (Obj.cls_mapFields ..).trans hc, by
    rw [Obj.data_mapFields hd]; simp [rawInt]⟩
theorem special_lst_end {it l : Addr} {i : Nat} {items : Array Value} {Q : Option Value → Shared → Prop} (hh : A.handled = none) (hit : s.heap.IsListIter it l i) (hl : s.heap.IsList l items) (hx : items[i]? = none)
    (hE : ∀ e h', StopX e h' → Heap.ExtBut it s.heap h' → E e { s with heap := h' }) : wpAny (model prog w) A (callSpecial? (.ref it) "__next__") Q E s := by
  obtain ⟨o, ho, hc, hd⟩ := id hit
  obtain ⟨ol, hol, _, nl, hdl⟩ := hl
  refine wpAny_callSpecial?_slot (name := Str.ofString "__next__") hit.typeIs slot_listiter_next (wpAny_call_entry slot_listiter_next hit.typeIs entry_listiter_next ?_ (args_listiter_next _))
  show wpAny _ _ (field (.ref it) 0 >>= _) _ _ s
  refine wpAny_bind (wpAny_field ho hd (x := .ref l) rfl ?_)
  show wpAny _ _ (if (Value.ref l == Value.none) = true then _ else _) _ _ s
  rw [if_neg (show ¬ ((Value.ref l == Value.none) = true) from Bool.false_ne_true)]
  show wpAny _ _ (field (.ref it) 1 >>= _) _ _ s
  refine wpAny_bind (wpAny_field ho hd (x := .int i 0) rfl ?_)
  show wpAny _ _ (seqItems? (.ref l) >>= _) _ _ s
  refine wpAny_bind (wpAny_seqItems hol hdl ?_)
  simp only [Int.toNat_natCast, hx]
  refine wpAny_bind (wpAny_rule (wpAny_bind (wpAny_setField ho hd (by simp) ?_)))
  show wpAny _ _ (newExc (.type "StopIteration") [] >>= _) _ _ _
  refine wpAny_bind ?_
  simp only [newExc, newTuple]
  refine wpAny_bind (wpAny_newObj_type ?_ (by size_fits))
  refine wpAny_bind (m := firstArgMember _ _) (wpAny_of_eq (a := Value.none) (by first | rfl | (simp only [firstArgMember]; rfl)) ?_)
  refine wpAny_newObj_type ?_ (by size_fits)
  simp only [raiseNew]
  refine wpAny_bind (wpAny_handled ?_)
  first | rw [show A.in1.handled = none from hh] | rw [hh]
  refine wpAny_bind (wpAny_pure (wpAny_throw ?_))
  refine hE _ _ ⟨_, _, _, rfl, Heap.get?_push_size _ rfl, rfl, rfl, ?_⟩ (((Heap.SameBut.update ..).extBut.push _).push _)
  first
    | rfl
    | (rw [Array.getElem?_append_left (by decide)]; rfl)
    | kernel_rfl
end
section
variable {X : Cx} {e : Expr} {te : TE}
def tYfLst (te : TE) : TYf := fun σ H Q => te σ H fun x H1 => ∃ a xs, x = .ref a ∧ H1 a = some (.lst xs) ∧ Q xs H1
theorem close_lst : typeLookup (.type "list_iterator") "close" = pure none := by rw [typeLookup_type, builtinLookup_eq_fast]; kernel_rfl
theorem yf_lst (he : PE X e te) : YfE X e (tYfLst te) := by
  refine ⟨fun pins s σ H Q I h => ?_⟩
  refine thn (he.run pins s σ H _ I h) fun v s1 ⟨x, H1, I1, r1, a, xs, ex, ha, hq⟩ => ?_
  subst ex
  obtain rfl : v = Value.ref a := r1
  obtain ⟨its, rits, pl, hlen⟩ := I1.list (SqL.of ha)
  have ht : s1.heap.IsList a its.toArray := pl.isList
  refine ⟨"list", ht.typeIs, by decide, wpAny_pyIter_list ht ?_⟩
  have lta : a < s1.heap.objs.size := let ⟨_, e, _⟩ := ht; Heap.lt_size e
  have ksz : ∀ b o, s1.heap.get? b = some o → b ≠ s1.heap.objs.size := fun b o e => Nat.ne_of_lt (Heap.lt_size e)
  have kp : ∀ b o, s1.heap.get? b = some o → (s1.heap.push { cls := .type "list_iterator", data := .fields #[.ref a, .int 0 0] }).get? b = some o := fun b o e => Heap.get?_push_of_some _ e
  refine ⟨s1.heap.objs.size, H1, xs, fun j h => h.IsListIter s1.heap.objs.size a j ∧ h.IsList a its.toArray, rfl, I1.kept (t' := s1.toks) kp, .inr I1.sz, Nat.ne_of_gt I1.lt, fun y c hy => ?_, I1.hok.fresh (Nat.le_refl _), fun p hp => ?_,
    ⟨⟨_, Heap.get?_push_size _ rfl, rfl, rfl⟩, ht.push _⟩, ⟨⟨"list_iterator", fun j h q => ?_, close_lst, by decide⟩, fun j h h' q hk => ?_, fun A' j x s2 Q' E' hA hx q hQ => ?_, fun A' s2 Q' E' hA q hE => ?_⟩, hq⟩
  · obtain ⟨v, o, ho, _⟩ := I1.cell y c hy
    exact ksz c o ho
  · exact ksz p.1 _ (I1.pin p hp).1
  · obtain ⟨⟨o, ho, hc, _⟩, _⟩ := q
    exact ⟨o, ho, hc⟩
  · obtain ⟨⟨o, ho, r⟩, o2, ho2, r2⟩ := q
    exact ⟨⟨o, hk _ o (.inl rfl) ho, r⟩, o2, hk _ o2 (.inr (by rw [ha]; exact fun z => by cases z)) ho2, r2⟩
  · obtain ⟨q1, q2⟩ := q
    obtain ⟨u, hu, ru⟩ := rits.get hx
    have hne : a ≠ s1.heap.objs.size := Nat.ne_of_lt lta
    exact special_lst_item q1 q2 (x := u) (by simpa using hu) fun h' q1' hs => hQ u h' s2.toks ru ⟨q1', q2.extBut hs.extBut hne⟩ fun b o hb eb => hs.extBut b o hb eb
  · obtain ⟨q1, q2⟩ := q
    have hnone : its.toArray[xs.length]? = none := by
      have e := rits.length
      have e2 : its[xs.length]? = none := List.getElem?_eq_none_iff.mpr (by omega)
      simpa using e2
    exact special_lst_end hA q1 q2 hnone fun e h' hS hk => hE e h' s2.toks hS fun b o hb eb => hk b o hb eb
end
end Si2

/-! list(text); a call that may raise in a try, where no StopIteration comes. -/
namespace St2
open PySem PySem.Spec PyProof.Rows L2
theorem passLN {X : Cx} {W : WX} (n : Nat) (hn : X.N.length = n) (tk : Takes X W) : Passes (L2.CX X.prog X.w) X (fun cls d H => PySem.W.subIn X.K cls (.type "StopIteration") = some false ∧ ∀ σ : L2.St, σ.length = n → W cls d σ H) :=
  fun _ σ _ _ e s' I c => tk e s' (XE.of_call I (fun _ _ _ h => h.2 σ (I.len.trans hn)) c)
theorem pss_two {X : Cx} {a b : Stmt} {t u v : TS} (h : PS X a t) (g : PS X b u) (e : v = tSeq t u) : PSs X [a, b] v := by
  subst e
  exact pss_cons h (pss_one g)
/-- C(e, ..) whose __init__ may raise: what is raised is wished for at the slots as they stand -/
def tMakeS (C : Addr) (sp : Sp) (E : L2.St → XK) (t : TA) : TE := fun σ H Q => t σ H fun vs H1 => ∀ x dx, H1 x = none → H1 dx = none → dx ≠ x →
  sp (.ref x :: vs) (upd (upd H1 dx (.own x)) x (.ins C dx [])) (fun v H2 => v = .non ∧ Q (.ref x) H2) (E σ)
theorem pe_makeS {X : Cx} {CX : CXT} {k : Nat} {f C : Addr} {fd : FuncData} {ps : List Str} {sp : Sp} {E : L2.St → XK} {x : Str} {p pos : Pos} {e : Expr} {es : List Expr} {t : TA} (M : Mk X.K C f) (F : FnOk X.prog X.w X.K X.mg X.base CX k f fd ps sp) (hr : Room (k + 1) X.A) (hg : Gl X x) (hm : X.mg x = some (.ref C)) (hb : Binds X.K fd ps [])
    (hx : ∀ σ, PassesAt CX X σ (E σ)) (ha : PA X (e :: es) t) (hdb : (x == ("__debug__" : Str)) = false := by decide) (he : starEach (e :: es) X.env = (false, eval e X.env) :: starEach es X.env := by rfl) (hpl : (backTo pos (starEach es X.env)).any (·.1) = false := by rfl) :
    PE X (.Call (.Name x p) (e :: es) [] pos) (tMakeS C sp E t) := by
  constructor
  intro pins s σ H Q I h
  refine wpAny_Call_Name_kw (ld_glob I hg hm ?_ hdb)
  refine PySem.W.callWith_K (h₀ := X.base) I.ok.mod.kin M.kp (thn (ha.run pos pins s σ H _ I h) fun us s1 w => ?_) he hpl
  obtain ⟨vs, H1, J, r, q⟩ := w
  refine ⟨J.kIn, ?_⟩
  have free := J.hok.fresh (Nat.le_refl s1.heap.objs.size)
  have go := q (s1.heap.objs.size + 1) _ (J.hok.fresh (Nat.le_succ _)) free (Nat.ne_of_lt (Nat.lt_succ_self _))
  have J2 := Inv.made (C := C) J
  have r2 : Vals (V.ref (s1.heap.objs.size + 1) :: vs) (Value.ref (s1.heap.objs.size + 1) :: us) := .cons rfl r
  have many := (r2.length.symm.trans (F.len _ _ _ _ go)).trans rfl
  have bound := hb _ (Value.ref (s1.heap.objs.size + 1) :: us) J2.kIn (by rw [List.append_nil]; exact many)
  rw [List.append_nil] at bound
  have ran := F.run _ X.stack _ _ _ _ _ _ (E σ) (hr.make C us []) (J2.env0.make C us []) bound r2 go
  refine wpAny_call (make_map (f := f) J.kIn M.makes M.init (beq_iff_eq.mp M.fn) (codeAny_mono ran fun z t2 hz => ?_))
  match z, hz with
  | .error _, hz => exact hx σ pins _ _ _ _ J2 hz
  | .ok (.ret _), hz =>
    obtain ⟨_, _, J3, rv, ev, q3⟩ := J2.after hz
    subst ev
    exact ⟨rv, V.ref (s1.heap.objs.size + 1), _, J3, rfl, q3⟩
  | .ok .next, hz => exact hz.elim
  | .ok .brk, hz => exact hz.elim
  | .ok .cont, hz => exact hz.elim
theorem noStop {K : PySem.W.Frag} {P : Value → Option Addr → Hp → Prop} : NoStop K (fun cls d H => PySem.W.subIn K cls (.type "StopIteration") = some false ∧ P cls d H) := fun _ _ _ h => h.1
theorem vals_signs {x : Str} {acc : Array Value} (h : ItemsOf (SignAt x) acc x.cps.size) : Vals (Si2.sgs x) acc.toList := by
  refine vals_of_at ?_ fun j a u ha hu => ?_
  · rw [show acc.toList.length = x.cps.size from (Array.length_toList).trans h.1]
    simp [Si2.sgs]
  · obtain ⟨c, t, hc, rfl⟩ := h.2 j u (by rw [← hu, Array.getElem?_toList])
    unfold Si2.sgs at ha
    rw [List.getElem?_map, Array.getElem?_toList, hc] at ha
    cases ha
    exact ⟨t, rfl⟩
def rListS : List V → Hp → VK → Prop := fun xs H Q => ∃ x : Str, xs = [.str x] ∧ x.length ≤ sizeLine ∧ ∀ q, H q = none → Q (.ref q) (upd H q (.lst (Si2.sgs x)))
theorem call_listS {X : Cx} (hc : X.calm = true) : CallR X (.type "list") rListS := by
  intro pins s σ H xs us Q I r h
  obtain ⟨x, rfl, hl, q⟩ := h
  obtain ⟨u, rfl, ru⟩ := r.one
  obtain ⟨t, rfl⟩ := ru
  refine call_list_str (I.ok.hd hc) x t (fun h' tk acc c' hk e' hi => ?_) hl
  refine ⟨.ref s.heap.objs.size, upd H s.heap.objs.size (.lst (Si2.sgs x)), I.laid hk (Nat.le_refl _) (show ObjOk X.prog X.w _ _ _ (.lst (Si2.sgs x)) from ⟨?_, acc.toList, c', vals_signs hi, ?_⟩), rfl, q _ (I.hok.fresh (Nat.le_refl _))⟩
  · show (Si2.sgs x).length ≤ sizeLine
    unfold Si2.sgs
    rw [List.length_map, Array.length_toList]
    exact hl
  · rw [Array.toArray_toList]; exact e'
end St2

/-! [x] * k, the new list off sys.modules. -/
namespace Rz
open PySem PySem.Spec PyProof.Rows L2
/-- [x] * k: the product is laid at a new place, which isn't sys.modules -/
def rRepZ : R2 := fun x y H Q => ∃ (l : Addr) (k : Nat) (z : V), x = .ref l ∧ y = .int (k : Int) ∧ H l = some (.lst [z]) ∧ 1 ≤ k ∧ k ≤ 1000 ∧ ∀ p, p ≠ sysModules → H p = none → Q (.ref p) (upd H p (.lst (List.replicate k z)))
theorem flat_one {α : Type} (z : α) : ∀ k : Nat, (List.replicate k [z]).flatten = List.replicate k z
  | 0 => rfl
  | k + 1 => by
    rw [List.replicate_succ, List.flatten_cons, flat_one z k]
    rfl
theorem fold_one {α : Type} (z : α) : ∀ (k : Nat) (acc : List α), List.foldl (fun a b => a ++ b) acc.toArray (List.replicate k #[z]) = (acc ++ List.replicate k z).toArray
  | 0, acc => by simp
  | k + 1, acc => by
    rw [List.replicate_succ, List.foldl_cons, List.replicate_succ]
    have := fold_one z k (acc ++ [z])
    simpa using this
theorem vals_rep {z : V} {u : Value} (r : RelV z u) : ∀ k : Nat, Vals (List.replicate k z) (List.replicate k u)
  | 0 => .nil
  | k + 1 => .cons r (vals_rep r k)
theorem op_repZ {X : Cx} : OpR X (binaryOp .Mult) rRepZ := by
  intro pins s σ H x y v u Q I rx ry h
  obtain ⟨l, k, z, rfl, rfl, hH, k1, k2, q⟩ := h
  cases rx
  obtain ⟨t, rfl⟩ := ry
  obtain ⟨hz, its, n, r, hl, e⟩ := I.lstM hH
  obtain ⟨uz, rfl, rz⟩ := r.one
  have big := I.big
  have sz : 1000 ≤ sizeLine := by decide
  obtain ⟨kk, ek⟩ : ∃ kk : Int, kk = (k : Int) := ⟨_, rfl⟩
  rw [← ek]
  have et : kk.toNat = k := by omega
  generalize ea : ([uz].toArray : Array Value) = ar at *
  have as : ar.size = 1 := by rw [← ea]; rfl
  have c1 : ¬ ar.size * kk.toNat > (2 ^ 63 - 1) / 8 := by
    rw [as, et]
    have : (1000 : Nat) ≤ (2 ^ 63 - 1) / 8 := by decide
    omega
  have c2 : ¬ (!Builtin.List.listFitsIndex kk) = true := by
    rw [fitsIndex_both (by omega) (by omega)]
    exact Bool.false_ne_true
  have c3 : ¬ Builtin.List.listTooLong (ar.size * kk.toNat) = true := by
    rw [notLongL (by rw [as, et, Nat.one_mul]; exact Nat.le_trans k2 sz)]
    exact Bool.false_ne_true
  have made : List.foldl (fun a b => a ++ b) #[] (List.replicate (if ar.isEmpty = true then 0 else kk.toNat) ar) = (List.replicate k uz).toArray := by
    have := fold_one uz k []
    rw [et, ← ea]
    simpa using this
  refine wpAny_binaryOp_repeat_ref (T := "list") (U := "int") (by decide) ⟨_, e, rfl⟩ (fun s' => typeIs_int s' kk t) noFill_list_mul F.fills_int_mul F.slot_int_rmul repeat_list F.slot_int_index.lookup ?_
  refine call_meets F.slot_int_rmul (typeIs_int s kk t) F.entry_int_rmul (F.args_int_rmul_2 _ _) (int___rmul___int_list kk t l ar n) ⟨e, rfl, ⟨_, e, rfl⟩, ?_⟩
  refine call_meets F.slot_list_mul ⟨_, e, rfl⟩ F.entry_list_mul (F.args_list_mul_2 _ _) (AutoListH.list___mul___list_int_3 l ar n kk t c2 c1 c3) ⟨e, ?_⟩
  rw [made]
  exact ⟨.ref _, _, I.lnew (t' := s.toks) (vals_rep rz k) (by rw [List.length_replicate]; exact Nat.le_trans k2 sz), rfl, q _ (Nat.ne_of_gt big) I.fresh⟩
end Rz

/-! t * k, t a tuple that is not empty, k from 1 on: t * 1 is t itself. -/
namespace Tu1
open PySem PySem.Spec PyProof.Rows L2 Wm
theorem mul_one (l : Addr) (items : Array Value) (n : Nat) (dd : Option Addr) (sl : Array (Option Value)) (u : Tok) :
    Meets (Builtin.«tuple.__mul__» ⟨[.ref l, .int 1 u], []⟩) (fun _ R s => s.heap.get? l = some { cls := .type "tuple", dict := dd, data := .seq items n, slots := sl } ∧ R (.ok (.ret (.ref l))) s) :=
  .of_wp fun prog w A R s h => by
    obtain ⟨hp, g, d, tk, os⟩ := s
    obtain ⟨hl, h⟩ := h
    have f1 := AutoSeq1.idx_int
    wp_walk using wpAny_loadPart' hl
    exact ⟨_, rfl, h⟩
def rRepA (K : PySem.W.Frag) : R2 := fun x y H Q => ∃ (l : Addr) (k : Int) (xs : List V), x = .ref l ∧ y = .int k ∧ SqT K H l xs ∧ xs ≠ [] ∧ 1 ≤ k ∧ k ≤ 1000 ∧ xs.length ≤ 1000 ∧ (k = 1 → Q (.ref l) H) ∧ ∀ p, H p = none → Q (.ref p) (upd H p (.tup (List.replicate k.toNat xs).flatten))
theorem op_repA {X : Cx} : OpR X (binaryOp .Mult) (rRepA X.K) := by
  intro pins s σ H x y v u Q I rx ry h
  obtain ⟨l, k, xs, ex, ey, hT, hne, h1, h2, hz, same, new⟩ := h
  by_cases c : k = 1
  · subst c ex ey
    cases rx
    obtain ⟨t, rfl⟩ := ry
    obtain ⟨its, r, ⟨⟨cls, dd, data, sl⟩, ho, hc, n, hd⟩, _⟩ := I.tuple hT
    simp only at hc hd
    subst hc hd
    exact wpAny_binaryOp_repeat_ref (T := "tuple") (U := "int") (by decide) ⟨_, ho, rfl⟩ (fun s' => typeIs_int s' 1 t) noFill_tuple_mul F.fills_int_mul F.slot_int_rmul repeat_tuple F.slot_int_index.lookup
      (call_meets F.slot_int_rmul (typeIs_int s 1 t) F.entry_int_rmul (F.args_int_rmul_2 _ _) (int_rmul_tuple 1 t l its.toArray n dd sl)
        ⟨ho, rfl, ⟨_, ho, rfl⟩, call_meets F.slot_tuple_mul ⟨_, ho, rfl⟩ F.entry_tuple_mul (F.args_tuple_mul_2 _ _) (mul_one l its.toArray n dd sl t) ⟨ho, .ref l, H, I, rfl, same rfl⟩⟩)
  · exact op_repT pins s σ H x y v u Q I rx ry ⟨l, k, xs, ex, ey, hT, hne, by omega, h2, hz, new⟩
/-- the same, wherever the product stands -/
def rRepB (K : PySem.W.Frag) : R2 := fun x y H Q => ∃ (l : Addr) (k : Int) (xs : List V), x = .ref l ∧ y = .int k ∧ SqT K H l xs ∧ xs ≠ [] ∧ 1 ≤ k ∧ k ≤ 1000 ∧ xs.length ≤ 1000 ∧ ∀ w H', Same H H' → SqT K H' w (List.replicate k.toNat xs).flatten → Q (.ref w) H'
theorem op_repB {X : Cx} : OpR X (binaryOp .Mult) (rRepB X.K) := by
  intro pins s σ H x y v u Q I rx ry h
  obtain ⟨l, k, xs, ex, ey, hT, hne, h1, h2, hz, q⟩ := h
  refine op_repA pins s σ H x y v u Q I rx ry ⟨l, k, xs, ex, ey, hT, hne, h1, h2, hz, fun e => q l H (Same.refl H) ?_, fun p hp => q p _ (Wm.same_new hp) (SqT.of upd_same)⟩
  subst e
  show SqT X.K H l (xs ++ [])
  rw [List.append_nil]
  exact hT
end Tu1

/-! (a, t) != (a, t), whatever the texts. -/
namespace Ne2
open PySem PySem.Spec PyProof.Rows L2
def rNe2 (K : PySem.W.Frag) : R2 := fun x y H Q => ∃ p q a t, x = .ref p ∧ y = .ref q ∧ SqT K H p [.str a, .str t] ∧ SqT K H q [.str a, .str t] ∧ Q (.bl false) H
theorem op_ne2 {X : Cx} (hu : X.A.units + 64 < cLine) : OpR X (compareOp .NotEq) (rNe2 X.K) := by
  intro pins s σ H x y v u Q I rx ry h
  obtain ⟨p, q, a, t, rfl, rfl, hp, hq, h⟩ := h
  cases rx
  cases ry
  obtain ⟨its, r1, p1, _⟩ := I.tuple hp
  obtain ⟨its2, r2, p2, _⟩ := I.tuple hq
  rcases r1 with _ | ⟨a1, r1⟩
  rcases r1 with _ | ⟨a2, r1⟩
  cases r1
  rcases r2 with _ | ⟨b1, r2⟩
  rcases r2 with _ | ⟨b2, r2⟩
  cases r2
  obtain ⟨k1, rfl⟩ := a1
  obtain ⟨k2, rfl⟩ := a2
  obtain ⟨m1, rfl⟩ := b1
  obtain ⟨m2, rfl⟩ := b2
  have e := PySem.SeqAt.RcNeAt.tuples (A := X.A) (s := s) (e := fun _ => true) p1 p2 (by omega) (fun j h1 h2 => by
    have c : j = 0 ∨ j = 1 := by
      have : j < 2 := h1
      omega
    rcases c with rfl | rfl
    · have := PySem.SeqAt.EqAt.str_str (A := X.A.in1) (s := s) a k1 a m1
      simpa using this
    · have := PySem.SeqAt.EqAt.str_str (A := X.A.in1) (s := s) t k2 t m2
      simpa using this)
  exact e X.prog X.w X.xe _ ⟨.bl false, H, I, rfl, h⟩
end Ne2

namespace K54
open PySem L2
def top (i : Nat) : Stmt := PySem.Challenge.pw_wheelchorus_k54_cards_and_their_texts.main.body.getD i (.Pass ⟨0, 0, 0, 0⟩)
abbrev s_is_whole : Stmt := top 6
abbrev s_is_whole_within : Stmt := top 7
abbrev s_is_sequence : Stmt := top 8
abbrev s_is_digit : Stmt := top 9
abbrev s_is_number : Stmt := top 14
abbrev s_is_station : Stmt := top 23
abbrev s_is_crew : Stmt := top 24
abbrev s_is_stations : Stmt := top 22
abbrev s_is_order : Stmt := top 25
abbrev s_are_counts : Stmt := top 26
abbrev s_is_move : Stmt := top 28
abbrev s_are_moves : Stmt := top 27
abbrev s_cinit : Stmt := inClass (top 21) 1
abbrev s_joined : Stmt := top 30
abbrev s_card_text : Stmt := top 29
abbrev s_digits_in : Stmt := top 32
abbrev s_read_card : Stmt := top 31
abbrev s_bag : Stmt := top 34
abbrev s_take : Stmt := top 35
abbrev s_of : Stmt := top 36
abbrev s_number : Stmt := top 37
abbrev s_lis_whole : Stmt := top 39
abbrev s_is_row : Stmt := top 40
abbrev s_lis_number : Stmt := top 41
abbrev s_is_pair : Stmt := top 42
abbrev s_fault : Stmt := top 43
abbrev s_as : Stmt := top 44
abbrev s_parts : Stmt := top 45
abbrev s_odd : Stmt := top 46
abbrev s_line : Stmt := top 47
abbrev s_figures : Stmt := top 48
abbrev s_read : Stmt := top 49
abbrev s_bent : Stmt := top 50
abbrev s_shown : Stmt := top 51
abbrev s_plain : Stmt := top 52
abbrev s_tried : Stmt := top 53
abbrev s_read_tried : Stmt := top 54
abbrev s_kept : Stmt := top 55
abbrev s_law : Stmt := top 56
abbrev nm_is_whole : List Str := ["thing"]
theorem sc_is_whole : FnScope nm_is_whole ["thing"] (defScope s_is_whole) :=
  ⟨rfl, rfl, rfl, by decide +kernel, rfl, by decide +kernel, by decide +kernel⟩
abbrev nm_is_whole_within : List Str := ["thing", "low", "high"]
theorem sc_is_whole_within : FnScope nm_is_whole_within ["thing", "low", "high"] (defScope s_is_whole_within) :=
  ⟨rfl, rfl, rfl, by decide +kernel, rfl, by decide +kernel, by decide +kernel⟩
abbrev nm_is_sequence : List Str := ["thing"]
theorem sc_is_sequence : FnScope nm_is_sequence ["thing"] (defScope s_is_sequence) :=
  ⟨rfl, rfl, rfl, by decide +kernel, rfl, by decide +kernel, by decide +kernel⟩
abbrev nm_is_digit : List Str := ["word"]
theorem sc_is_digit : FnScope nm_is_digit ["word"] (defScope s_is_digit) :=
  ⟨rfl, rfl, rfl, by decide +kernel, rfl, by decide +kernel, by decide +kernel⟩
abbrev nm_is_number : List Str := ["thing", "letter"]
theorem sc_is_number : FnScope nm_is_number ["thing"] (defScope s_is_number) :=
  ⟨rfl, rfl, rfl, by decide +kernel, rfl, by decide +kernel, by decide +kernel⟩
abbrev nm_is_station : List Str := ["thing"]
theorem sc_is_station : FnScope nm_is_station ["thing"] (defScope s_is_station) :=
  ⟨rfl, rfl, rfl, by decide +kernel, rfl, by decide +kernel, by decide +kernel⟩
abbrev nm_is_crew : List Str := ["thing"]
theorem sc_is_crew : FnScope nm_is_crew ["thing"] (defScope s_is_crew) :=
  ⟨rfl, rfl, rfl, by decide +kernel, rfl, by decide +kernel, by decide +kernel⟩
abbrev nm_is_stations : List Str := ["thing", "station"]
theorem sc_is_stations : FnScope nm_is_stations ["thing"] (defScope s_is_stations) :=
  ⟨rfl, rfl, rfl, by decide +kernel, rfl, by decide +kernel, by decide +kernel⟩
abbrev nm_is_order : List Str := ["thing", "crew"]
theorem sc_is_order : FnScope nm_is_order ["thing"] (defScope s_is_order) :=
  ⟨rfl, rfl, rfl, by decide +kernel, rfl, by decide +kernel, by decide +kernel⟩
abbrev nm_are_counts : List Str := ["thing", "count"]
theorem sc_are_counts : FnScope nm_are_counts ["thing"] (defScope s_are_counts) :=
  ⟨rfl, rfl, rfl, by decide +kernel, rfl, by decide +kernel, by decide +kernel⟩
abbrev nm_is_move : List Str := ["thing"]
theorem sc_is_move : FnScope nm_is_move ["thing"] (defScope s_is_move) :=
  ⟨rfl, rfl, rfl, by decide +kernel, rfl, by decide +kernel, by decide +kernel⟩
abbrev nm_are_moves : List Str := ["thing", "move"]
theorem sc_are_moves : FnScope nm_are_moves ["thing"] (defScope s_are_moves) :=
  ⟨rfl, rfl, rfl, by decide +kernel, rfl, by decide +kernel, by decide +kernel⟩
abbrev nm_cinit : List Str := ["self", "number", "order", "counts", "owed", "moves", "move"]
theorem sc_cinit : FnScope nm_cinit ["self", "number", "order", "counts", "owed", "moves"] (defScope s_cinit) :=
  ⟨rfl, rfl, rfl, by decide +kernel, rfl, by decide +kernel, by decide +kernel⟩
abbrev nm_joined : List Str := ["wholes", "whole"]
theorem sc_joined : FnScope nm_joined ["wholes"] (defScope s_joined) :=
  ⟨rfl, rfl, rfl, by decide +kernel, rfl, by decide +kernel, by decide +kernel⟩
abbrev nm_card_text : List Str := ["card", "crews", "parts", "crew", "station"]
theorem sc_card_text : FnScope nm_card_text ["card"] (defScope s_card_text) :=
  ⟨rfl, rfl, rfl, by decide +kernel, rfl, by decide +kernel, by decide +kernel⟩
abbrev nm_digits_in : List Str := ["text", "separator", "word"]
theorem sc_digits_in : FnScope nm_digits_in ["text", "separator"] (defScope s_digits_in) :=
  ⟨rfl, rfl, rfl, by decide +kernel, rfl, by decide +kernel, by decide +kernel⟩
abbrev nm_read_card : List Str := ["text", "number", "_", "rest", "parts", "order", "moves", "part", "wrong"]
theorem sc_read_card : FnScope nm_read_card ["text"] (defScope s_read_card) :=
  ⟨rfl, rfl, rfl, by decide +kernel, rfl, by decide +kernel, by decide +kernel⟩
abbrev nm_bag : List Str := ["_law_script", "_law_at", "_law_cell", "_law_mixed", "_law_k", "_law_each"]
theorem sc_bag : FnScope nm_bag ["_law_script", "_law_at"] (defScope s_bag) :=
  ⟨rfl, rfl, rfl, by decide +kernel, rfl, by decide +kernel, by decide +kernel⟩
abbrev nm_take : List Str := ["_law_bag_here", "_law_many", "_law_digit"]
theorem sc_take : FnScope nm_take ["_law_bag_here", "_law_many"] (defScope s_take) :=
  ⟨rfl, rfl, rfl, by decide +kernel, rfl, by decide +kernel, by decide +kernel⟩
abbrev nm_of : List Str := ["_law_bag_here", "_law_some"]
theorem sc_of : FnScope nm_of ["_law_bag_here", "_law_some"] (defScope s_of) :=
  ⟨rfl, rfl, rfl, by decide +kernel, rfl, by decide +kernel, by decide +kernel⟩
abbrev nm_number : List Str := ["_law_bag_here", "_law_many", "_law_total", "_law_text", "_law_at", "_law_figure"]
theorem sc_number : FnScope nm_number ["_law_bag_here"] (defScope s_number) :=
  ⟨rfl, rfl, rfl, by decide +kernel, rfl, by decide +kernel, by decide +kernel⟩
abbrev nm_lis_whole : List Str := ["_law_thing", "_law_most"]
theorem sc_lis_whole : FnScope nm_lis_whole ["_law_thing", "_law_most"] (defScope s_lis_whole) :=
  ⟨rfl, rfl, rfl, by decide +kernel, rfl, by decide +kernel, by decide +kernel⟩
abbrev nm_is_row : List Str := ["_law_thing", "_law_least", "_law_most", "_law_top", "_law_each"]
theorem sc_is_row : FnScope nm_is_row ["_law_thing", "_law_least", "_law_most", "_law_top"] (defScope s_is_row) :=
  ⟨rfl, rfl, rfl, by decide +kernel, rfl, by decide +kernel, by decide +kernel⟩
abbrev nm_lis_number : List Str := ["_law_thing", "_law_sign"]
theorem sc_lis_number : FnScope nm_lis_number ["_law_thing"] (defScope s_lis_number) :=
  ⟨rfl, rfl, rfl, by decide +kernel, rfl, by decide +kernel, by decide +kernel⟩
abbrev nm_is_pair : List Str := ["_law_thing"]
theorem sc_is_pair : FnScope nm_is_pair ["_law_thing"] (defScope s_is_pair) :=
  ⟨rfl, rfl, rfl, by decide +kernel, rfl, by decide +kernel, by decide +kernel⟩
abbrev nm_fault : List Str := ["_law_parts_here", "_law_number_here", "_law_order", "_law_counts", "_law_owed", "_law_moves", "_law_crew", "_law_pair"]
theorem sc_fault : FnScope nm_fault ["_law_parts_here"] (defScope s_fault) :=
  ⟨rfl, rfl, rfl, by decide +kernel, rfl, by decide +kernel, by decide +kernel⟩
abbrev nm_as : List Str := ["_law_bag_here", "_law_items"]
theorem sc_as : FnScope nm_as ["_law_bag_here", "_law_items"] (defScope s_as) :=
  ⟨rfl, rfl, rfl, by decide +kernel, rfl, by decide +kernel, by decide +kernel⟩
abbrev nm_parts : List Str := ["_law_bag_here", "_law_crews", "_law_order", "_law_moves", "_law_turn", "_law_counts", "_law_grade", "_law_owed"]
theorem sc_parts : FnScope nm_parts ["_law_bag_here"] (defScope s_parts) :=
  ⟨rfl, rfl, rfl, by decide +kernel, rfl, by decide +kernel, by decide +kernel⟩
abbrev nm_odd : List Str := ["_law_bag_here", "_law_at", "_law_texts", "_law_rows", "_law_pairs", "_law_plain_here", "_law_menu"]
theorem sc_odd : FnScope nm_odd ["_law_bag_here", "_law_at"] (defScope s_odd) :=
  ⟨rfl, rfl, rfl, by decide +kernel, rfl, by decide +kernel, by decide +kernel⟩
abbrev nm_line : List Str := ["_law_parts_here", "_law_number_here", "_law_order", "_law_counts", "_law_owed", "_law_moves", "_law_words", "_law_crew", "_law_count", "_law_pair"]
theorem sc_line : FnScope nm_line ["_law_parts_here"] (defScope s_line) :=
  ⟨rfl, rfl, rfl, by decide +kernel, rfl, by decide +kernel, by decide +kernel⟩
abbrev nm_figures : List Str := ["_law_text", "_law_found", "_law_word"]
theorem sc_figures : FnScope nm_figures ["_law_text"] (defScope s_figures) :=
  ⟨rfl, rfl, rfl, by decide +kernel, rfl, by decide +kernel, by decide +kernel⟩
abbrev nm_read : List Str := ["_law_text", "_law_pieces", "_law_words", "_law_order", "_law_parts_here", "_law_piece", "_law_two"]
theorem sc_read : FnScope nm_read ["_law_text"] (defScope s_read) :=
  ⟨rfl, rfl, rfl, by decide +kernel, rfl, by decide +kernel, by decide +kernel⟩
abbrev nm_bent : List Str := ["_law_bag_here", "_law_text", "_law_at", "_law_way", "_law_sign"]
theorem sc_bent : FnScope nm_bent ["_law_bag_here", "_law_text"] (defScope s_bent) :=
  ⟨rfl, rfl, rfl, by decide +kernel, rfl, by decide +kernel, by decide +kernel⟩
abbrev nm_shown : List Str := ["_law_card"]
theorem sc_shown : FnScope nm_shown ["_law_card"] (defScope s_shown) :=
  ⟨rfl, rfl, rfl, by decide +kernel, rfl, by decide +kernel, by decide +kernel⟩
abbrev nm_plain : List Str := ["_law_parts_here", "_law_moves", "_law_pair"]
theorem sc_plain : FnScope nm_plain ["_law_parts_here"] (defScope s_plain) :=
  ⟨rfl, rfl, rfl, by decide +kernel, rfl, by decide +kernel, by decide +kernel⟩
abbrev nm_tried : List Str := ["_law_parts_here", "e", "_law_is_alone"]
theorem sc_tried : FnScope nm_tried ["_law_parts_here"] (defScope s_tried) :=
  ⟨rfl, rfl, rfl, by decide +kernel, rfl, by decide +kernel, by decide +kernel⟩
abbrev nm_read_tried : List Str := ["_law_text", "e"]
theorem sc_read_tried : FnScope nm_read_tried ["_law_text"] (defScope s_read_tried) :=
  ⟨rfl, rfl, rfl, by decide +kernel, rfl, by decide +kernel, by decide +kernel⟩
abbrev nm_kept : List Str := ["_law_parts_here", "_law_due", "_law_line_here", "_law_told", "_law_part", "_law_pair", "_law_card", "_law_lone"]
theorem sc_kept : FnScope nm_kept ["_law_parts_here"] (defScope s_kept) :=
  ⟨rfl, rfl, rfl, by decide +kernel, rfl, by decide +kernel, by decide +kernel⟩
abbrev nm_law : List Str := ["_law_script", "_law_at", "_law_bag_here", "_law_turn", "_law_parts_here", "_law_line_here", "_law_again", "_law_text", "_law_read_here", "_law_due", "_law_wrong", "_law_place", "_law_fault_here", "_law_shown_here", "_law_told", "_law_thing"]
theorem sc_law : FnScope nm_law ["_law_script"] (defScope s_law) :=
  ⟨rfl, rfl, rfl, by decide +kernel, rfl, by decide +kernel, by decide +kernel⟩
set_option genInjectivity false in
set_option genSizeOf false in
set_option genSizeOfSpec false in
structure Txt (K : PySem.W.Frag) (mg : Str → Option Value) where
  CC : Addr
  gCC : mg "Card" = some (.ref CC)
  clCC : Cls K CC
  nNu : NoAttr K CC "number"
  nOr : NoAttr K CC "order"
  nCo : NoAttr K CC "counts"
  nOw : NoAttr K CC "owed"
  nMo : NoAttr K CC "moves"
  mcC : Value
  rdC : ClX.CRead K CC mcC
  uG : Value
  vG : ClX.CVal K CC mcC "GRADES" (.int 3) uG
  tO : Addr
  tM : Addr
  CB : Addr
  fB : Addr
  lowC : PySem.LowC.LowTxt K mg CB fB
  CT : Addr
  fT : Addr
  lowT : PySem.LowT.LowTxt K mg CT fT
  Wc : Addr
  gWc : mg "WheelError" = some (.ref Wc)
  Sc : Addr
  gSc : mg "BadStations" = some (.ref Sc)
  kCW : PySem.W.kitOne K (.ref CB) (.ref Wc) = some true
  kCT : PySem.W.kitOne K (.ref CB) (.ref CT) = some false
  kCS : PySem.W.kitOne K (.ref CB) (.ref Sc) = some false
  kTW : PySem.W.kitOne K (.ref CT) (.ref Wc) = some true
  kTC : PySem.W.kitOne K (.ref CT) (.ref CB) = some false
  xcC : ExcC K CB
  cliC : (PySem.W.clsIn K CB).isSome = true
  xcT : ExcC K CT
  cliT : (PySem.W.clsIn K CT).isSome = true
  tOt : ∀ H, SqT K H tO [.int 0, .int 0, .int 0]
  tMt : ∀ H, SqT K H tM []
  a_is_whole : Addr
  d_is_whole : FuncData
  F_is_whole : Fun K "is_whole" "is_whole" s_is_whole a_is_whole d_is_whole
  b_is_whole : Binds K d_is_whole ["thing"] []
  g_is_whole : mg "is_whole" = some (.ref a_is_whole)
  a_is_whole_within : Addr
  d_is_whole_within : FuncData
  F_is_whole_within : Fun K "is_whole_within" "is_whole_within" s_is_whole_within a_is_whole_within d_is_whole_within
  b_is_whole_within : Binds K d_is_whole_within ["thing", "low", "high"] []
  g_is_whole_within : mg "is_whole_within" = some (.ref a_is_whole_within)
  a_is_sequence : Addr
  d_is_sequence : FuncData
  F_is_sequence : Fun K "is_sequence" "is_sequence" s_is_sequence a_is_sequence d_is_sequence
  b_is_sequence : Binds K d_is_sequence ["thing"] []
  g_is_sequence : mg "is_sequence" = some (.ref a_is_sequence)
  a_is_digit : Addr
  d_is_digit : FuncData
  F_is_digit : Fun K "is_digit" "is_digit" s_is_digit a_is_digit d_is_digit
  b_is_digit : Binds K d_is_digit ["word"] []
  g_is_digit : mg "is_digit" = some (.ref a_is_digit)
  a_is_number : Addr
  d_is_number : FuncData
  F_is_number : Fun K "is_number" "is_number" s_is_number a_is_number d_is_number
  b_is_number : Binds K d_is_number ["thing"] []
  g_is_number : mg "is_number" = some (.ref a_is_number)
  a_is_station : Addr
  d_is_station : FuncData
  F_is_station : Fun K "is_station" "is_station" s_is_station a_is_station d_is_station
  b_is_station : Binds K d_is_station ["thing"] []
  g_is_station : mg "is_station" = some (.ref a_is_station)
  a_is_crew : Addr
  d_is_crew : FuncData
  F_is_crew : Fun K "is_crew" "is_crew" s_is_crew a_is_crew d_is_crew
  b_is_crew : Binds K d_is_crew ["thing"] []
  g_is_crew : mg "is_crew" = some (.ref a_is_crew)
  a_is_stations : Addr
  d_is_stations : FuncData
  F_is_stations : Fun K "is_stations" "is_stations" s_is_stations a_is_stations d_is_stations
  b_is_stations : Binds K d_is_stations ["thing"] []
  g_is_stations : mg "is_stations" = some (.ref a_is_stations)
  a_is_order : Addr
  d_is_order : FuncData
  F_is_order : Fun K "is_order" "is_order" s_is_order a_is_order d_is_order
  b_is_order : Binds K d_is_order ["thing"] []
  g_is_order : mg "is_order" = some (.ref a_is_order)
  a_are_counts : Addr
  d_are_counts : FuncData
  F_are_counts : Fun K "are_counts" "are_counts" s_are_counts a_are_counts d_are_counts
  b_are_counts : Binds K d_are_counts ["thing"] []
  g_are_counts : mg "are_counts" = some (.ref a_are_counts)
  a_is_move : Addr
  d_is_move : FuncData
  F_is_move : Fun K "is_move" "is_move" s_is_move a_is_move d_is_move
  b_is_move : Binds K d_is_move ["thing"] []
  g_is_move : mg "is_move" = some (.ref a_is_move)
  a_are_moves : Addr
  d_are_moves : FuncData
  F_are_moves : Fun K "are_moves" "are_moves" s_are_moves a_are_moves d_are_moves
  b_are_moves : Binds K d_are_moves ["thing"] []
  g_are_moves : mg "are_moves" = some (.ref a_are_moves)
  a_cinit : Addr
  d_cinit : FuncData
  F_cinit : FunD K "__init__" "Card.__init__" (defArgs s_cinit) (defBody s_cinit) (defScope s_cinit) [] [("owed", V.ref tO), ("moves", V.ref tM)] a_cinit d_cinit
  mk_cinit : Mk K CC a_cinit
  a_joined : Addr
  d_joined : FuncData
  F_joined : Fun K "joined" "joined" s_joined a_joined d_joined
  b_joined : Binds K d_joined ["wholes"] []
  g_joined : mg "joined" = some (.ref a_joined)
  a_card_text : Addr
  d_card_text : FuncData
  F_card_text : Fun K "card_text" "card_text" s_card_text a_card_text d_card_text
  b_card_text : Binds K d_card_text ["card"] []
  g_card_text : mg "card_text" = some (.ref a_card_text)
  a_digits_in : Addr
  d_digits_in : FuncData
  F_digits_in : Fun K "digits_in" "digits_in" s_digits_in a_digits_in d_digits_in
  b_digits_in : Binds K d_digits_in ["text", "separator"] []
  g_digits_in : mg "digits_in" = some (.ref a_digits_in)
  a_read_card : Addr
  d_read_card : FuncData
  F_read_card : Fun K "read_card" "read_card" s_read_card a_read_card d_read_card
  b_read_card : Binds K d_read_card ["text"] []
  g_read_card : mg "read_card" = some (.ref a_read_card)
  a_bag : Addr
  d_bag : FuncData
  F_bag : Fun K "_law_bag" "_law_bag" s_bag a_bag d_bag
  b_bag : Binds K d_bag ["_law_script", "_law_at"] []
  g_bag : mg "_law_bag" = some (.ref a_bag)
  a_take : Addr
  d_take : FuncData
  F_take : Fun K "_law_take" "_law_take" s_take a_take d_take
  b_take : Binds K d_take ["_law_bag_here", "_law_many"] []
  g_take : mg "_law_take" = some (.ref a_take)
  a_of : Addr
  d_of : FuncData
  F_of : Fun K "_law_of" "_law_of" s_of a_of d_of
  b_of : Binds K d_of ["_law_bag_here", "_law_some"] []
  g_of : mg "_law_of" = some (.ref a_of)
  a_number : Addr
  d_number : FuncData
  F_number : Fun K "_law_number" "_law_number" s_number a_number d_number
  b_number : Binds K d_number ["_law_bag_here"] []
  g_number : mg "_law_number" = some (.ref a_number)
  a_lis_whole : Addr
  d_lis_whole : FuncData
  F_lis_whole : Fun K "_law_is_whole" "_law_is_whole" s_lis_whole a_lis_whole d_lis_whole
  b_lis_whole : Binds K d_lis_whole ["_law_thing", "_law_most"] []
  g_lis_whole : mg "_law_is_whole" = some (.ref a_lis_whole)
  a_is_row : Addr
  d_is_row : FuncData
  F_is_row : Fun K "_law_is_row" "_law_is_row" s_is_row a_is_row d_is_row
  b_is_row : Binds K d_is_row ["_law_thing", "_law_least", "_law_most", "_law_top"] []
  g_is_row : mg "_law_is_row" = some (.ref a_is_row)
  a_lis_number : Addr
  d_lis_number : FuncData
  F_lis_number : Fun K "_law_is_number" "_law_is_number" s_lis_number a_lis_number d_lis_number
  b_lis_number : Binds K d_lis_number ["_law_thing"] []
  g_lis_number : mg "_law_is_number" = some (.ref a_lis_number)
  a_is_pair : Addr
  d_is_pair : FuncData
  F_is_pair : Fun K "_law_is_pair" "_law_is_pair" s_is_pair a_is_pair d_is_pair
  b_is_pair : Binds K d_is_pair ["_law_thing"] []
  g_is_pair : mg "_law_is_pair" = some (.ref a_is_pair)
  a_fault : Addr
  d_fault : FuncData
  F_fault : Fun K "_law_fault" "_law_fault" s_fault a_fault d_fault
  b_fault : Binds K d_fault ["_law_parts_here"] []
  g_fault : mg "_law_fault" = some (.ref a_fault)
  a_as : Addr
  d_as : FuncData
  F_as : Fun K "_law_as" "_law_as" s_as a_as d_as
  b_as : Binds K d_as ["_law_bag_here", "_law_items"] []
  g_as : mg "_law_as" = some (.ref a_as)
  a_parts : Addr
  d_parts : FuncData
  F_parts : Fun K "_law_parts" "_law_parts" s_parts a_parts d_parts
  b_parts : Binds K d_parts ["_law_bag_here"] []
  g_parts : mg "_law_parts" = some (.ref a_parts)
  a_odd : Addr
  d_odd : FuncData
  F_odd : Fun K "_law_odd" "_law_odd" s_odd a_odd d_odd
  b_odd : Binds K d_odd ["_law_bag_here", "_law_at"] []
  g_odd : mg "_law_odd" = some (.ref a_odd)
  a_line : Addr
  d_line : FuncData
  F_line : Fun K "_law_line" "_law_line" s_line a_line d_line
  b_line : Binds K d_line ["_law_parts_here"] []
  g_line : mg "_law_line" = some (.ref a_line)
  a_figures : Addr
  d_figures : FuncData
  F_figures : Fun K "_law_figures" "_law_figures" s_figures a_figures d_figures
  b_figures : Binds K d_figures ["_law_text"] []
  g_figures : mg "_law_figures" = some (.ref a_figures)
  a_read : Addr
  d_read : FuncData
  F_read : Fun K "_law_read" "_law_read" s_read a_read d_read
  b_read : Binds K d_read ["_law_text"] []
  g_read : mg "_law_read" = some (.ref a_read)
  a_bent : Addr
  d_bent : FuncData
  F_bent : Fun K "_law_bent" "_law_bent" s_bent a_bent d_bent
  b_bent : Binds K d_bent ["_law_bag_here", "_law_text"] []
  g_bent : mg "_law_bent" = some (.ref a_bent)
  a_shown : Addr
  d_shown : FuncData
  F_shown : Fun K "_law_shown" "_law_shown" s_shown a_shown d_shown
  b_shown : Binds K d_shown ["_law_card"] []
  g_shown : mg "_law_shown" = some (.ref a_shown)
  a_plain : Addr
  d_plain : FuncData
  F_plain : Fun K "_law_plain" "_law_plain" s_plain a_plain d_plain
  b_plain : Binds K d_plain ["_law_parts_here"] []
  g_plain : mg "_law_plain" = some (.ref a_plain)
  a_tried : Addr
  d_tried : FuncData
  F_tried : Fun K "_law_tried" "_law_tried" s_tried a_tried d_tried
  b_tried : Binds K d_tried ["_law_parts_here"] []
  g_tried : mg "_law_tried" = some (.ref a_tried)
  a_read_tried : Addr
  d_read_tried : FuncData
  F_read_tried : Fun K "_law_read_tried" "_law_read_tried" s_read_tried a_read_tried d_read_tried
  b_read_tried : Binds K d_read_tried ["_law_text"] []
  g_read_tried : mg "_law_read_tried" = some (.ref a_read_tried)
  a_kept : Addr
  d_kept : FuncData
  F_kept : Fun K "_law_kept" "_law_kept" s_kept a_kept d_kept
  b_kept : Binds K d_kept ["_law_parts_here"] []
  g_kept : mg "_law_kept" = some (.ref a_kept)
  a_law : Addr
  d_law : FuncData
  F_law : Fun K "law" "law" s_law a_law d_law
  b_law : Binds K d_law ["_law_script"] []
  g_law : mg "law" = some (.ref a_law)
  t_DIGITS : Tok
  c_DIGITS : mg "DIGITS" = some (.str "123456789" t_DIGITS)
  t_MOST_DIGITS : Tok
  c_MOST_DIGITS : mg "MOST_DIGITS" = some (.int 4 t_MOST_DIGITS)
  t_GREATEST_SUM : Tok
  c_GREATEST_SUM : mg "GREATEST_SUM" = some (.int 24 t_GREATEST_SUM)
  t_MOST_CREWS : Tok
  c_MOST_CREWS : mg "MOST_CREWS" = some (.int 6 t_MOST_CREWS)
  t_LAST_CREW : Tok
  c_LAST_CREW : mg "LAST_CREW" = some (.int 5 t_LAST_CREW)
  t_LAST_STATION : Tok
  c_LAST_STATION : mg "LAST_STATION" = some (.int 8 t_LAST_STATION)
  t_MOST_MOVES : Tok
  c_MOST_MOVES : mg "MOST_MOVES" = some (.int 6 t_MOST_MOVES)
  t_EMPTY : Tok
  c_EMPTY : mg "EMPTY" = some (.str "-" t_EMPTY)
  z_abs : mg "abs" = none
  z_all : mg "all" = none
  z_bool : mg "bool" = none
  z_enumerate : mg "enumerate" = none
  z_int : mg "int" = none
  z_isinstance : mg "isinstance" = none
  z_len : mg "len" = none
  z_list : mg "list" = none
  z_max : mg "max" = none
  z_min : mg "min" = none
  z_range : mg "range" = none
  z_repr : mg "repr" = none
  z_set : mg "set" = none
  z_str : mg "str" = none
  z_sum : mg "sum" = none
  z_tuple : mg "tuple" = none
  kb_cinit : KBn K d_cinit ["self", "number", "order", "counts", "owed", "moves"] 3 ["counts", "owed", "moves"] (fun us ws => us ++ ws) (fun vs zs => vs ++ zs)
  mv1 : List Value
  kb1_cinit : KBn K d_cinit ["self", "number", "order", "counts", "owed", "moves"] 3 ["counts"] (fun us ws => us ++ ws ++ mv1) (fun vs zs => vs ++ zs ++ [V.ref tO, V.ref tM])
end K54

/-! The promises. -/
namespace K54
open PySem L2 Wm Dv De TL
/-! ### what a datum is -/
def seqO : PyData → Option (List PyData)
  | .list xs => some xs
  | .tuple xs => some xs
  | _ => none
def itm (d : PyData) : List PyData := (seqO d).getD []
def rowB (d : PyData) (lo hi : Nat) : Bool := match seqO d with
  | some xs => decide (lo ≤ xs.length) && decide (xs.length ≤ hi)
  | none => false
def whB : PyData → Bool
  | .int _ => true
  | _ => false
def wbD : PyData → Int → Int → Bool
  | .int i, l, h => decide (l ≤ i) && decide (i ≤ h)
  | _, _, _ => false
def seqB (d : PyData) : Bool := (seqO d).isSome
open Classical in
noncomputable def numB (d : PyData) : Bool := decide (∃ ds, Num ds ∧ d = .str (numS ds))
def fstD (d : PyData) : PyData := (itm d).getD 0 .none
def sndD (d : PyData) : PyData := (itm d).getD 1 .none
def intD : PyData → Int
  | .int i => i
  | _ => 0
/-! ### cards -/
def crewB (d : PyData) : Bool := wbD d 0 5
def statB (d : PyData) : Bool := wbD d 0 8
def stationsB (d : PyData) : Bool := rowB d 1 6 && (itm d).all statB
def orderB (d : PyData) : Bool := seqB d && ((itm d).all crewB && decide ((itm d).map intD).Nodup)
def countsB (d : PyData) : Bool := rowB d 3 3 && (itm d).all fun x => wbD x 0 6
def moveB (d : PyData) : Bool := rowB d 2 2 && (crewB (fstD d) && statB (sndD d))
def movesB (d : PyData) : Bool := seqB d && (decide ((itm d).length ≤ 6) && (itm d).all moveB)
noncomputable def faultW (n o c w m : PyData) : Option Str :=
  if numB n = true then if orderB o = true then if countsB c = true then if countsB w = true then if movesB m = true then none else some "moves" else some "owed" else some "counts" else some "order" else some "number"
structure Cd where
  ds : List Nat
  order : List Nat
  counts : List Nat
  owed : List Nat
  moves : List (Nat × Nat)
def nD (ns : List Nat) : List PyData := ns.map fun (n : Nat) => PyData.int (n : Int)
def iD (ns : List Nat) : PyData := .tuple (nD ns)
def mD (x : Nat × Nat) : PyData := .tuple [.int (x.1 : Nat), .int (x.2 : Nat)]
def mvD (m : List (Nat × Nat)) : PyData := .tuple (m.map mD)
structure CdOk (c : Cd) : Prop where
  num : Num c.ds
  ord : ∀ k ∈ c.order, k ≤ 5
  nd : c.order.Nodup
  c3 : c.counts.length = 3
  c6 : ∀ k ∈ c.counts, k ≤ 6
  o3 : c.owed.length = 3
  o6 : ∀ k ∈ c.owed, k ≤ 6
  m6 : c.moves.length ≤ 6
  mv : ∀ x ∈ c.moves, x.1 ≤ 5 ∧ x.2 ≤ 8
/-- the data are a card's -/
structure Fit (n o c w m : PyData) (q : Cd) : Prop where
  hn : n = .str (numS q.ds)
  os : seqB o = true
  ho : itm o = nD q.order
  cs : seqB c = true
  hc : itm c = nD q.counts
  ws : seqB w = true
  hw : itm w = nD q.owed
  ms : seqB m = true
  hm : (itm m).map (fun x => PyData.tuple (itm x)) = q.moves.map mD
  mq : ∀ x ∈ itm m, seqB x = true
def CardAt (K : PySem.W.Frag) (CC : Addr) (H : Hp) (p : Addr) (c : Cd) : Prop := ∃ dx fs o1 o2 o3 o4, H p = some (.ins CC dx fs) ∧ fs.lookup ("number" : Str) = some (.str (numS c.ds)) ∧
  fs.lookup ("order" : Str) = some o1 ∧ Dt K H o1 (iD c.order) ∧ fs.lookup ("counts" : Str) = some o2 ∧ Dt K H o2 (iD c.counts) ∧ fs.lookup ("owed" : Str) = some o3 ∧ Dt K H o3 (iD c.owed) ∧ fs.lookup ("moves" : Str) = some o4 ∧ Dt K H o4 (mvD c.moves) ∧
  ∀ m : Str, m ≠ "number" → m ≠ "order" → m ≠ "counts" → m ≠ "owed" → m ≠ "moves" → fs.lookup m = none
def Er (C : Addr) (f : Str) (E : XK) (H : Hp) (x : V) : Prop := ∀ H' d, Same H H' → H' d = some (.xd [(f, x)]) → E (.ref C) (some d) H'
theorem Er.after {C : Addr} {f : Str} {E : XK} {H H1 : Hp} {x : V} (h : Er C f E H x) (s : Same H H1) : Er C f E H1 x := fun H' d s' e => h H' d (s.trans s') e
/-- texts are not too long -/
def TxOk (d : PyData) : Prop := ∀ t, d = .str t → t.length ≤ 100000
def sp_is_whole (K : PySem.W.Frag) : Sp := fun vs H Q _ => ∃ v d N, vs = [v] ∧ En K N H v d ∧ Q (.bl (whB d)) H
def sp_is_whole_within (K : PySem.W.Frag) : Sp := fun vs H Q _ => ∃ v d N, ∃ lo hi : Int, vs = [v, .int lo, .int hi] ∧ En K N H v d ∧ Q (.bl (wbD d lo hi)) H
def sp_is_sequence (K : PySem.W.Frag) : Sp := fun vs H Q _ => ∃ v d N, vs = [v] ∧ En K N H v d ∧ ∀ H', Same H H' → Q (.bl (seqB d)) H'
def sp_is_number (K : PySem.W.Frag) : Sp := fun vs H Q _ => ∃ v d N, vs = [v] ∧ En K N H v d ∧ TxOk d ∧ ∀ H', Same H H' → Q (.bl (numB d)) H'
def Off (p : Addr) (H H' : Hp) : Prop := ∀ q o, q ≠ p → H q = some o → H' q = some o
def sp_is_digit (K : PySem.W.Frag) : Sp := fun vs H Q _ => ∃ t : Str, vs = [.str t] ∧ t.length ≤ 100000 ∧ ∀ H' b, Same H H' → (b = true ↔ ∃ n : Nat, n ≤ 9 ∧ tl t = [n + 48]) → Q (.bl b) H'
def sp_is_station (K : PySem.W.Frag) : Sp := fun vs H Q _ => ∃ v d N, vs = [v] ∧ En K N H v d ∧ Q (.bl (statB d)) H
def sp_is_crew (K : PySem.W.Frag) : Sp := fun vs H Q _ => ∃ v d N, vs = [v] ∧ En K N H v d ∧ Q (.bl (crewB d)) H
def sp_is_stations (K : PySem.W.Frag) : Sp := fun vs H Q _ => ∃ v d N, vs = [v] ∧ En K N H v d ∧ ∀ H', Same H H' → Q (.bl (stationsB d)) H'
def sp_is_order (K : PySem.W.Frag) : Sp := fun vs H Q _ => ∃ v d N, vs = [v] ∧ En K N H v d ∧ (itm d).length ≤ 1000 ∧ ∀ H', Same H H' → Q (.bl (orderB d)) H'
def sp_are_counts (K : PySem.W.Frag) : Sp := fun vs H Q _ => ∃ v d N, vs = [v] ∧ En K N H v d ∧ ∀ H', Same H H' → Q (.bl (countsB d)) H'
def sp_is_move (K : PySem.W.Frag) : Sp := fun vs H Q _ => ∃ v d N, vs = [v] ∧ En K N H v d ∧ ∀ H', Same H H' → Q (.bl (moveB d)) H'
def sp_are_moves (K : PySem.W.Frag) : Sp := fun vs H Q _ => ∃ v d N, vs = [v] ∧ En K N H v d ∧ ∀ H', Same H H' → Q (.bl (movesB d)) H'
def sp_cinit (K : PySem.W.Frag) (C CB : Addr) : Sp := fun vs H Q E => ∃ (p dx : Addr) (x1 x2 x3 x4 x5 : V) (n o c w m : PyData) (N : Addr → Prop), vs = [.ref p, x1, x2, x3, x4, x5] ∧ H p = some (.ins C dx []) ∧ En K N H x1 n ∧ En K N H x2 o ∧ En K N H x3 c ∧ En K N H x4 w ∧ En K N H x5 m ∧
  TxOk n ∧ (itm o).length ≤ 1000 ∧ (∀ q, Fit n o c w m q → CdOk q → ∀ H', Off p H H' → CardAt K C H' p q → Q .non H') ∧ ∀ z, faultW n o c w m = some z → Er CB "what" E H (.str z)
/-! ### a card's text, by codes -/
def rowC (ns : List Nat) : List Nat := joinL [32] (ns.map fun n => [n + 48])
def moveC (x : Nat × Nat) : List Nat := [x.1 + 48, 62, x.2 + 48]
def ordC (ns : List Nat) : List Nat := if ns = [] then [45] else rowC ns
def partsC (q : Cd) : List (List Nat) := ordC q.order :: rowC q.counts :: rowC q.owed :: q.moves.map moveC
def lineC (q : Cd) : List Nat := codes q.ds ++ ([58, 32] ++ joinL [32, 47, 32] (partsC q))
def lineT (q : Cd) : Str := SX.S (lineC q)
def wordD (w : List Nat) : PyData := match w with
  | [c] => if 48 ≤ c ∧ c ≤ 57 then .int ((c - 48 : Nat) : Int) else .none
  | _ => .none
def digsD (s : Nat) (t : List Nat) : List PyData := (spl [s] 0 [] t).map wordD
def vD : PyData → V
  | .int i => .int i
  | _ => .non
def sp_joined (K : PySem.W.Frag) : Sp := fun vs H Q _ => ∃ v ns, vs = [v] ∧ Dt K H v (iD ns) ∧ (∀ n ∈ ns, n ≤ 9) ∧ ns.length ≤ 10 ∧ ∀ H', Same H H' → Q (.str (SX.S (rowC ns))) H'
def sp_card_text (K : PySem.W.Frag) (CC : Addr) : Sp := fun vs H Q _ => ∃ p q, vs = [.ref p] ∧ CardAt K CC H p q ∧ CdOk q ∧ ∀ H', Same H H' → Q (.str (lineT q)) H'
def sp_digits_in (K : PySem.W.Frag) : Sp := fun vs H Q _ => ∃ (t b : Str) (s : Nat), vs = [.str t, .str b] ∧ tl b = [s] ∧ s < 256 ∧ t.length ≤ 900 ∧ ∀ H' D, Same H H' → H D = none → H' D = some (.lst ((digsD s (tl t)).map vD)) → Q (.ref D) H'
def sp_read_card (K : PySem.W.Frag) (CC CT : Addr) : Sp := fun vs H Q E => ∃ v d N, vs = [v] ∧ En K N H v d ∧
  ((∃ t : Str, d = .str t ∧ t.length ≤ 900 ∧ (∀ q, CdOk q → t = lineT q → ∀ H' p, Same H H' → CardAt K CC H' p q → Q (.ref p) H') ∧ ((∀ q, CdOk q → t ≠ lineT q) → Er CT "text" E H v)) ∨
   ((∀ t, d ≠ .str t) ∧ Er CT "text" E H v))
/-! ### the law -/
/-- the source of draws -/
def Bk (H : Hp) (b : Addr) : Prop := ∃ x y : Int, H b = some (.lst [.int x, .int y]) ∧ 0 ≤ x ∧ 0 ≤ y ∧ y < 2147483648
def sp_bag (K : PySem.W.Frag) : Sp := fun vs H Q _ => ∃ (a : Addr) (ns : List Int) (i : Nat), vs = [.ref a, .int (i : Nat)] ∧ SqL K H a (ns.map V.int) ∧ ns.length ≤ 63 ∧ i ≤ 63 ∧ ∀ H' b, Same H H' → H b = none → Bk H' b → Q (.ref b) H'
def sp_take (K : PySem.W.Frag) : Sp := fun vs H Q _ => ∃ (b : Addr) (m : Nat), vs = [.ref b, .int (m : Nat)] ∧ Bk H b ∧ 0 < m ∧ m < 1000000 ∧ ∀ H' (d : Nat), d < m → Off b H H' → Bk H' b → Q (.int (d : Nat)) H'
def sp_of (K : PySem.W.Frag) : Sp := fun vs H Q _ => ∃ (b l : Addr) (xs : List V), vs = [.ref b, .ref l] ∧ Bk H b ∧ l ≠ b ∧ H l = some (.lst xs) ∧ xs ≠ [] ∧ xs.length < 1000 ∧ ∀ H' v, v ∈ xs → Off b H H' → Bk H' b → Q v H'
def sp_number (K : PySem.W.Frag) : Sp := fun vs H Q _ => ∃ (b : Addr), vs = [.ref b] ∧ Bk H b ∧ ∀ H' (ds : List Nat), Num ds → Off b H H' → Bk H' b → Q (.str (numS ds)) H'
def sp_lis_whole (K : PySem.W.Frag) : Sp := fun vs H Q _ => ∃ v d N, ∃ k : Int, vs = [v, .int k] ∧ En K N H v d ∧ Q (.bl (wbD d 0 k)) H
def sp_is_row (K : PySem.W.Frag) : Sp := fun vs H Q _ => ∃ v d N, ∃ (lo hi : Nat) (k : Int), vs = [v, .int (lo : Nat), .int (hi : Nat), .int k] ∧ En K N H v d ∧ hi ≤ 1000 ∧ ∀ H', Same H H' → Q (.bl (rowB d lo hi && (itm d).all fun x => wbD x 0 k)) H'
def sp_lis_number (K : PySem.W.Frag) : Sp := fun vs H Q _ => ∃ v d N, vs = [v] ∧ En K N H v d ∧ TxOk d ∧ ∀ H', Same H H' → Q (.bl (numB d)) H'
def sp_is_pair (K : PySem.W.Frag) : Sp := fun vs H Q _ => ∃ v d N, vs = [v] ∧ En K N H v d ∧ ∀ H', Same H H' → Q (.bl (moveB d)) H'
structure Mg (n w : Nat) (d : PyData) : Prop where
  sh : d.showable = true
  ls : d.leavesShort 13 = true
  dp : d.depth ≤ n
  bk : d.bulk ≤ w
def Nz (b : Addr) : Addr → Prop := fun a => a ≠ sysModules ∧ a ≠ b
def Np (b l : Addr) (H0 : Hp) : Addr → Prop := fun a => (a ≠ sysModules ∧ a ≠ b ∧ H0 a = none) ∧ a ≠ l
def fV : Option Str → V
  | some z => .str z
  | none => .non
/-- a list of five data -/
def Five (K : PySem.W.Frag) (N : Addr → Prop) (H : Hp) (l : Addr) (n o c w m : PyData) : Prop := ∃ x1 x2 x3 x4 x5, H l = some (.lst [x1, x2, x3, x4, x5]) ∧ En K N H x1 n ∧ En K N H x2 o ∧ En K N H x3 c ∧ En K N H x4 w ∧ En K N H x5 m
def sp_fault (K : PySem.W.Frag) : Sp := fun vs H Q _ => ∃ (l : Addr) (n o c w m : PyData) (N : Addr → Prop), vs = [.ref l] ∧ Five K N H l n o c w m ∧ TxOk n ∧ ∀ H', Same H H' → Q (fV (faultW n o c w m)) H'
def sp_as (K : PySem.W.Frag) : Sp := fun vs H Q _ => ∃ (b l : Addr) (xs : List V), vs = [.ref b, .ref l] ∧ Bk H b ∧ l ≠ b ∧ H l = some (.lst xs) ∧ ∀ H' r t, Off b H H' → Bk H' b → (t = false → H r = none ∧ r ≠ sysModules ∧ H' r = some (.lst xs)) → Kd.Is K t H' r xs → Q (.ref r) H'
def sp_parts (K : PySem.W.Frag) : Sp := fun vs H Q _ => ∃ (b : Addr), vs = [.ref b] ∧ Bk H b ∧ ∀ H' l q o c w m, Off b H H' → Bk H' b → H l = none → CdOk q → Five K (Np b l H) H' l (.str (numS q.ds)) o c w m → Fit (.str (numS q.ds)) o c w m q → Q (.ref l) H'
def sp_odd (K : PySem.W.Frag) : Sp := fun vs H Q _ => ∃ (b : Addr) (i : Nat), vs = [.ref b, .int (i : Nat)] ∧ i ≤ 4 ∧ Bk H b ∧ ∀ H' v d, Off b H H' → Bk H' b → En K (fun a => Nz b a ∧ H a = none) H' v d → Mg 4 1000 d → Q v H'
def sp_line (K : PySem.W.Frag) : Sp := fun vs H Q _ => ∃ (l : Addr) (n o c w m : PyData) (N : Addr → Prop) (q : Cd), vs = [.ref l] ∧ Five K N H l n o c w m ∧ Fit n o c w m q ∧ CdOk q ∧ ∀ H', Same H H' → Q (.str (lineT q)) H'
open Classical in
noncomputable def figD (t : List Nat) : PyData := if ∃ ns, digsD 32 t = nD ns then .list (digsD 32 t) else .none
def sp_figures (K : PySem.W.Frag) : Sp := fun vs H Q _ => ∃ (t : Str), vs = [.str t] ∧ t.length ≤ 900 ∧ ∀ H' v, Same H H' → En K (fun _ => True) H' v (figD (tl t)) → Q v H'
def sp_read (K : PySem.W.Frag) : Sp := fun vs H Q _ => ∃ (t : Str), vs = [.str t] ∧ t.length ≤ 900 ∧ ∀ H' v, Same H H' → ((∃ q l n o c w m, CdOk q ∧ t = lineT q ∧ v = .ref l ∧ Five K (fun _ => True) H' l n o c w m ∧ Fit n o c w m q) ∨ ((∀ q, CdOk q → t ≠ lineT q) ∧ v = .non)) → Q v H'
def sp_bent (K : PySem.W.Frag) : Sp := fun vs H Q _ => ∃ (b : Addr) (t : Str), vs = [.ref b, .str t] ∧ Bk H b ∧ t.length ≤ 400 ∧ ∀ H' u, u.length ≤ 2 * t.length + 1 → Off b H H' → Bk H' b → Q (.str u) H'
/-- repr of a card's parts -/
def showD (q : Cd) : PyData := .list [.str (numS q.ds), iD q.order, iD q.counts, iD q.owed, mvD q.moves]
def sp_shown (K : PySem.W.Frag) (CC : Addr) : Sp := fun vs H Q _ => ∃ p q, vs = [.ref p] ∧ CardAt K CC H p q ∧ CdOk q ∧ ∀ H', Same H H' → Q (.str (showD q).shown) H'
def sp_plain (K : PySem.W.Frag) : Sp := fun vs H Q _ => ∃ (l : Addr) (n o c w m : PyData) (N : Addr → Prop) (q : Cd), vs = [.ref l] ∧ Five K N H l n o c w m ∧ Fit n o c w m q ∧ CdOk q ∧ ∀ H', Same H H' → Q (.str (showD q).shown) H'
def sp_tried (K : PySem.W.Frag) (CC : Addr) : Sp := fun vs H Q _ => ∃ (l : Addr) (n o c w m : PyData) (N : Addr → Prop), vs = [.ref l] ∧ Five K N H l n o c w m ∧ TxOk n ∧ (itm o).length ≤ 1000 ∧
  ∀ H' t, Same H H' → ((∃ q p, Fit n o c w m q ∧ CdOk q ∧ SqT K H' t [.str "card", .ref p] ∧ CardAt K CC H' p q) ∨ (∃ z, faultW n o c w m = some z ∧ SqT K H' t [.str "bad", .str z])) → Q (.ref t) H'
/-- what trying to read a text tells -/
def Due (u y z : Str) : Prop := (∃ q, CdOk q ∧ u = lineT q ∧ y = "card" ∧ z = (showD q).shown) ∨ ((∀ q, CdOk q → u ≠ lineT q) ∧ y = "bad" ∧ z = u)
def sp_read_tried (K : PySem.W.Frag) (CC : Addr) : Sp := fun vs H Q _ => ∃ v d N, vs = [v] ∧ En K N H v d ∧
  ((∃ t : Str, d = .str t ∧ t.length ≤ 900 ∧ ∀ H' u y z, Same H H' → SqT K H' u [.str y, .str z] → Due t y z → Q (.ref u) H') ∨
   ((∀ t, d ≠ .str t) ∧ ∀ H' u, Same H H' → SqT K H' u [.str "bad", v] → Q (.ref u) H'))
def sp_kept (K : PySem.W.Frag) (CC : Addr) : Sp := fun vs H Q _ => ∃ (l : Addr) (n o c w m : PyData) (N : Addr → Prop) (q : Cd), vs = [.ref l] ∧ Five K N H l n o c w m ∧ ¬ N l ∧ Fit n o c w m q ∧ CdOk q ∧ ∀ H', (∀ a u, ¬ N a → H a = some u → H' a = some u) → Kt K H H' → Q (.bl true) H'
def sp_law (K : PySem.W.Frag) : Sp := fun vs H Q _ => ∃ (a : Addr) (ns : List Int), vs = [.ref a] ∧ SqL K H a (ns.map V.int) ∧ ns.length ≤ 63 ∧ ∀ H', Q (.bl true) H'
end K54

namespace K54
open PySem L2 Wm TL Dv De
section
variable {P : Program} {w : World} {K : PySem.W.Frag} {mg : Str → Option Value} {base : Heap}
theorem iteN {c : Bool} {A B : Prop} (e : c = false) (h : B) : if c = true then A else B := by
  rw [e]
  exact iteF h
theorem iteY {c : Bool} {A B : Prop} (e : c = true) (h : A) : if c = true then A else B := by
  rw [e]
  exact iteT h
theorem small_len {n : Nat} (h : n ≤ 100000) : n ≤ sizeLine := by
  have : (100000 : Nat) ≤ sizeLine := by decide
  omega
theorem tyT {H : Hp} {p : Addr} {xs : List V} (h : SqT K H p xs) : TyX K H (.ref p) (.type "tuple") := by
  rcases h with (h | ⟨o, h⟩) | ⟨o, its, n, e, c, _⟩
  · exact .base (.tup h)
  · exact .fTuple h
  · exact .kTuple e c
def tupB : PyData → Bool
  | .tuple _ => true
  | _ => false
def lstB : PyData → Bool
  | .list _ => true
  | _ => false
def intB : PyData → Bool
  | .int _ => true
  | .bool _ => true
  | _ => false
def boB : PyData → Bool
  | .bool _ => true
  | _ => false
def stB : PyData → Bool
  | .str _ => true
  | _ => false
structure Isi (K : PySem.W.Frag) (t : Value) (d : PyData) : Prop where
  tup : PySem.W.kitOne K t (.type "tuple") = some (tupB d)
  lst : PySem.W.kitOne K t (.type "list") = some (lstB d)
  int : PySem.W.kitOne K t (.type "int") = some (intB d)
  bool : PySem.W.kitOne K t (.type "bool") = some (boB d)
  str : PySem.W.kitOne K t (.type "str") = some (stB d)
variable {N : Addr → Prop}
theorem isi_en {H : Hp} {v : V} {d : PyData} (h : En K N H v d) : ∃ t, TyX K H v t ∧ Isi K t d := by
  cases h with
  | non => exact ⟨.type "NoneType", .base .non, kit_ty (show _ = some false by decide +kernel), kit_ty (show _ = some false by decide +kernel), kit_ty (show _ = some false by decide +kernel), kit_ty (show _ = some false by decide +kernel), kit_ty (show _ = some false by decide +kernel)⟩
  | bl b => exact ⟨.type "bool", .base (.bl _), kit_ty (show _ = some false by decide +kernel), kit_ty (show _ = some false by decide +kernel), kit_ty (show _ = some true by decide +kernel), kit_ty (show _ = some true by decide +kernel), kit_ty (show _ = some false by decide +kernel)⟩
  | int i => exact ⟨.type "int", .base (.int _), kit_ty (show _ = some false by decide +kernel), kit_ty (show _ = some false by decide +kernel), kit_ty (show _ = some true by decide +kernel), kit_ty (show _ = some false by decide +kernel), kit_ty (show _ = some false by decide +kernel)⟩
  | str x => exact ⟨.type "str", .base (.str _), kit_ty (show _ = some false by decide +kernel), kit_ty (show _ = some false by decide +kernel), kit_ty (show _ = some false by decide +kernel), kit_ty (show _ = some false by decide +kernel), kit_ty (show _ = some true by decide +kernel)⟩
  | tup s _ => exact ⟨.type "tuple", tyT s, kit_ty (show _ = some true by decide +kernel), kit_ty (show _ = some false by decide +kernel), kit_ty (show _ = some false by decide +kernel), kit_ty (show _ = some false by decide +kernel), kit_ty (show _ = some false by decide +kernel)⟩
  | lst _ e _ => exact ⟨.type "list", .base (.lst e), kit_ty (show _ = some false by decide +kernel), kit_ty (show _ = some true by decide +kernel), kit_ty (show _ = some false by decide +kernel), kit_ty (show _ = some false by decide +kernel), kit_ty (show _ = some false by decide +kernel)⟩
  | one _ e => exact ⟨.type "dict", .base (.dK e), kit_ty (show _ = some false by decide +kernel), kit_ty (show _ = some false by decide +kernel), kit_ty (show _ = some false by decide +kernel), kit_ty (show _ = some false by decide +kernel), kit_ty (show _ = some false by decide +kernel)⟩
  | emp _ e => exact ⟨.type "dict", .base (.dK e), kit_ty (show _ = some false by decide +kernel), kit_ty (show _ = some false by decide +kernel), kit_ty (show _ = some false by decide +kernel), kit_ty (show _ = some false by decide +kernel), kit_ty (show _ = some false by decide +kernel)⟩
theorem seq_or (d : PyData) : seqB d = (lstB d || tupB d) := by cases d <;> rfl
theorem seq_or2 (d : PyData) : seqB d = (tupB d || lstB d) := by cases d <;> rfl
/-- a sequence's items -/
theorem seq_en {H : Hp} {v : V} {d : PyData} (h : En K N H v d) (e : seqB d = true) : ∃ p xs t, v = .ref p ∧ Kd.Is K t H p xs ∧ Ens K N H xs (itm d) ∧ seqO d = some (itm d) := by
  cases h with
  | tup s r => exact ⟨_, _, true, rfl, s, r, rfl⟩
  | lst n e0 r => exact ⟨_, _, false, rfl, SqL.of e0, r, rfl⟩
  | _ => cases e
theorem row_en {d : PyData} (e : seqB d = true) (lo hi : Nat) : rowB d lo hi = (decide (lo ≤ (itm d).length) && decide ((itm d).length ≤ hi)) := by
  cases d with
  | list xs => rfl
  | tuple xs => rfl
  | _ => cases e
theorem row_no {d : PyData} (e : seqB d = false) (lo hi : Nat) : rowB d lo hi = false := by cases d <;> first | rfl | cases e
theorem row_seq {d : PyData} {lo hi : Nat} (e : rowB d lo hi = true) : seqB d = true ∧ lo ≤ (itm d).length ∧ (itm d).length ≤ hi := by
  cases c : seqB d with
  | false => rw [row_no c] at e; cases e
  | true =>
    rw [row_en c] at e
    obtain ⟨a, b⟩ := Bool.and_eq_true_iff.mp e
    exact ⟨rfl, of_decide_eq_true a, of_decide_eq_true b⟩
theorem lenK {H : Hp} {p : Addr} {xs : List V} {t : Bool} (h : Kd.Is K t H p xs) : SqL K H p xs ∨ SqT K H p xs := by
  cases t with
  | true => exact .inr h
  | false => exact .inl h
theorem dec_nat (a b : Nat) : decide (((a : Nat) : Int) ≤ ((b : Nat) : Int)) = decide (a ≤ b) := by
  by_cases c : a ≤ b
  · rw [decide_eq_true c, decide_eq_true (by omega)]
  · rw [decide_eq_false c, decide_eq_false (by omega)]
theorem ok_is_whole (T : Txt K mg) : FnOk P w K mg base CX0 1 T.a_is_whole T.d_is_whole ["thing"] (sp_is_whole K) := by
  refine T.F_is_whole.ok sc_is_whole (fun vs H Q E h => ?_) (fun cdv A outer s H vs Q E hr h => ?_)
  · obtain ⟨v, d, N, rfl, _⟩ := h
    rfl
  · obtain ⟨v, d, N, rfl, hd, k⟩ := h
    obtain ⟨t, ty, I⟩ := isi_en hd
    refine ⟨_, (pss_one (ps_ret (pe_and (pe_callB call_isi (by rfl) T.z_isinstance (by decide +kernel) (pa_cons (pv 0) (pa_cons (pe_bltn (v := V.ty "int") (by rfl) T.z_int (by decide +kernel) rfl) pa_nil))) (pe_one (pe_not (pe_callB call_isi (by rfl) T.z_isinstance (by decide +kernel) (pa_cons (pv 0) (pa_cons (pe_bltn (v := V.ty "bool") (by rfl) T.z_bool (by decide +kernel) rfl) pa_nil)))))))), ?_⟩
    refine ⟨_, rfl, _, _, _, _, intB d, rfl, .ty "int", ty, I.int, intB d, rfl, ?_⟩
    cases e : intB d with
    | false =>
      have e2 : whB d = false := by cases d <;> first | rfl | cases e
      rw [e2] at k
      exact iteF k
    | true =>
      have e2 : (!boB d) = whB d := by cases d <;> first | rfl | cases e
      rw [← e2] at k
      exact iteT ⟨_, rfl, _, _, _, _, _, rfl, .ty "bool", ty, I.bool, _, rfl, k⟩
theorem ok_is_whole_within (T : Txt K mg) : FnOk P w K mg base CX0 2 T.a_is_whole_within T.d_is_whole_within ["thing", "low", "high"] (sp_is_whole_within K) := by
  refine T.F_is_whole_within.ok sc_is_whole_within (fun vs H Q E h => ?_) (fun cdv A outer s H vs Q E hr h => ?_)
  · obtain ⟨v, d, N, lo, hi, rfl, _⟩ := h
    rfl
  · obtain ⟨v, d, N, lo, hi, rfl, hd, k⟩ := h
    refine ⟨_, (pss_one (ps_ret (pe_and (pe_call (ok_is_whole T) (hr.mono (by decide)) (by rfl) T.g_is_whole T.F_is_whole.kp T.b_is_whole .nil pass0 (pa_cons (pv 0) pa_nil)) (pe_one (pe_chain op_le op_le (pv 1) (pv 0) (pv 2)))))), ?_⟩
    refine ⟨_, rfl, v, d, N, rfl, hd, whB d, rfl, ?_⟩
    cases e : whB d with
    | false =>
      have e2 : wbD d lo hi = false := by cases d <;> first | rfl | cases e
      rw [e2] at k
      exact iteF k
    | true =>
      cases hd with
      | int i =>
        have k : Q (.bl (decide (lo ≤ i) && decide (i ≤ hi))) H := k
        refine iteT ⟨_, rfl, _, rfl, _, _, rfl, rfl, _, rfl, ?_⟩
        cases e : decide (lo ≤ i) with
        | true =>
          rw [e] at k
          exact iteT ⟨_, rfl, _, _, rfl, rfl, k⟩
        | false =>
          rw [e] at k
          exact iteF k
      | _ => cases e
theorem ok_is_sequence (T : Txt K mg) : FnOk P w K mg base CX0 1 T.a_is_sequence T.d_is_sequence ["thing"] (sp_is_sequence K) := by
  refine T.F_is_sequence.ok sc_is_sequence (fun vs H Q E h => ?_) (fun cdv A outer s H vs Q E hr h => ?_)
  · obtain ⟨v, d, N, rfl, _⟩ := h
    rfl
  · obtain ⟨v, d, N, rfl, hd, k⟩ := h
    refine ⟨_, (pss_one (ps_ret (pe_callB call_isiT (by rfl) T.z_isinstance (by decide +kernel) (pa_cons (pv 0) (pa_cons (pe_tup (pa_cons (pe_bltn (v := V.ty "list") (by rfl) T.z_list (by decide +kernel) rfl) (pa_cons (pe_bltn (v := V.ty "tuple") (by rfl) T.z_tuple (by decide +kernel) rfl) pa_nil))) pa_nil))))), ?_⟩
    refine ⟨_, rfl, by show 2 ≤ sizeLine; decide, fun t2 ht => ?_⟩
    have s1 : Same H (upd H t2 (.tup [.ty "list", .ty "tuple"])) := same_new ht
    obtain ⟨t, ty, I⟩ := isi_en (hd.ks s1)
    refine ⟨_, t2, _, _, _, seqB d, rfl, upd_same, .cons (.ty "list") (.cons (.ty "tuple") .nil), ty, kitAny_cons (b := lstB d) I.lst (fun e => kitAny_cons (b := tupB d) I.tup (fun e2 => ?_) (fun e2 => ?_)) (fun e => ?_), ?_⟩
    · rw [seq_or, e, e2]
      rfl
    · rw [seq_or, e, e2]
      rfl
    · rw [seq_or, e]
      rfl
    · exact k _ s1
end
end K54

namespace K54
open PySem L2 Wm TL Dv De
section
variable {P : Program} {w : World} {K : PySem.W.Frag} {mg : Str → Option Value} {base : Heap}
theorem sum_cast : ∀ ds : List Nat, (ds.map fun (d : Nat) => (d : Int)).sum = ((ds.sum : Nat) : Int)
  | [] => rfl
  | d :: ds => by
    rw [List.map_cons, List.sum_cons, List.sum_cons, sum_cast ds]
    omega
def letters (t : Str) : List Bool := (tl t).map fun c => decide (c ∈ ("123456789" : Str).cps.toList)
theorem letters_all {t : Str} : (letters t).all id = true ↔ ∀ c ∈ tl t, c ∈ ("123456789" : Str).cps.toList := by
  unfold letters
  rw [List.all_map, List.all_eq_true]
  constructor
  · intro h c m
    exact of_decide_eq_true (h c m)
  · intro h c m
    exact decide_eq_true (h c m)
theorem cps_at {t : Str} {i c : Nat} (h : t.cps[i]? = some c) : (tl t)[i]? = some c := by
  rw [← h]
  exact Array.getElem?_toList ..
open Classical in
theorem num_str {t : Str} : numB (.str t) = true ↔ IsNum t := by
  unfold numB
  rw [decide_eq_true_iff]
  exact ⟨fun ⟨ds, N, e⟩ => ⟨ds, N, PyData.str.inj e⟩, fun ⟨ds, N, e⟩ => ⟨ds, N, by rw [e]⟩⟩
open Classical in
theorem num_no {d : PyData} (h : stB d = false) : numB d = false := by
  unfold numB
  refine decide_eq_false ?_
  rintro ⟨ds, _, e⟩
  rw [e] at h
  cases h
theorem ok_is_number (T : Txt K mg) : FnOk P w K mg base CX0 1 T.a_is_number T.d_is_number ["thing"] (sp_is_number K) := by
  refine T.F_is_number.ok sc_is_number (fun vs H Q E h => ?_) (fun cdv A outer s H vs Q E hr h => ?_)
  · obtain ⟨v, d, N, rfl, _⟩ := h
    rfl
  · obtain ⟨v, d, N, rfl, hd, tx, kx⟩ := h
    obtain ⟨ty0, ty, I⟩ := isi_en hd
    refine ⟨_, (pss_cons (ps_if (PW.pt (pw_or (pt_not (pt_val (pe_callB call_isi (by rfl) T.z_isinstance (by decide +kernel) (pa_cons (pv 0) (pa_cons (pe_bltn (v := V.ty "str") (by rfl) T.z_str (by decide +kernel) rfl) pa_nil))))) (pw_or1 (pt_not (pt_chain op_le op_le pe_int (pe_callB call_len_str (by rfl) T.z_len PySem.boot_len (pa_cons (pv 0) pa_nil)) (pe_glob (v := V.int 4) rfl T.c_MOST_DIGITS ⟨_, rfl⟩))))))
        (pss_one (ps_ret pe_bl))
        pss_nil)
      (pss_cons (ps_if (pt_not (pt_val (pe_callB (cr_all rfl) (by rfl) T.z_all (by decide +kernel) (pa_cons (pe_lc (own := [("letter", 1)]) (g := gName 1) (tt := tYes) rfl sc_is_number.nd (pi_str (pv 0)) (blkOk_by (own := [("letter", 1)]) (N := nm_is_number) (sc := (defScope s_is_number)) (by decide +kernel)) (fun _ _ _ _ _ => pg_name (i := 1) sc_is_number.nd rfl (Or.inl rfl)) (fun _ _ _ _ _ => pts_nil) (fun _ _ _ _ _ => (pe_cmpR op_in_sign (pv 1) (pe_glob (v := V.str "123456789") rfl T.c_DIGITS ⟨_, rfl⟩) rfl))) pa_nil))))
        (pss_one (ps_ret pe_bl))
        pss_nil)
      (pss_one (ps_ret (pe_cmpR op_le (pe_callB (cr_sum rfl) (by rfl) T.z_sum (by decide +kernel) (pa_cons (pe_lc (own := [("letter", 1)]) (g := gName 1) (tt := tYes) rfl sc_is_number.nd (pi_str (pv 0)) (blkOk_by (own := [("letter", 1)]) (N := nm_is_number) (sc := (defScope s_is_number)) (by decide +kernel)) (fun _ _ _ _ _ => pg_name (i := 1) sc_is_number.nd rfl (Or.inl rfl)) (fun _ _ _ _ _ => pts_nil) (fun _ _ _ _ _ => (pe_callTy call_int_str (by rfl) T.z_int (by decide +kernel) (pa_cons (pv 1) pa_nil)))) pa_nil)) (pe_glob (v := V.int 24) rfl T.c_GREATEST_SUM ⟨_, rfl⟩) (nomark _)))))), ?_⟩
    refine ⟨_, rfl, _, _, _, _, stB d, rfl, .ty "str", ty, I.str, stB d, rfl, ?_⟩
    cases e0 : stB d with
    | false =>
      rw [num_no e0] at kx
      refine iteT ?_
      refine iteT ?_
      exact kx _ (Same.refl _)
    | true =>
    refine iteF ?_
    obtain ⟨t, rfl, rfl⟩ : ∃ t, v = .str t ∧ d = .str t := by
      cases hd with
      | str x => exact ⟨x, rfl, rfl⟩
      | _ => cases e0
    have hz : t.length ≤ 100000 := tx t rfl
    have k : ∀ H' b, Same H H' → (b = true ↔ IsNum t) → Q (.bl b) H' := fun H' b s e => by
      have e2 : b = numB (.str t) := Bool.eq_iff_iff.mpr (e.trans num_str.symm)
      rw [e2]
      exact kx _ s
    have hl : t.length = (tl t).length := len_tl t
    have numlen : IsNum t → 1 ≤ t.length ∧ t.length ≤ 4 := fun ⟨ds, N, e⟩ => by
      rw [e, numS_len]
      exact ⟨N.pos, N.len⟩
    refine ⟨_, rfl, _, rfl, small_len hz, _, _, rfl, rfl, _, rfl, ?_⟩
    refine ite2 (fun c1 => ?_) (fun c1 => ?_)
    case refine_2 =>
      have c1' : ¬ (1 : Int) ≤ (t.length : Nat) := fun z => c1 (decide_eq_true z)
      refine ⟨false, rfl, iteT ?_⟩
      exact k _ _ (Same.refl _) ⟨fun z => (by cases z), fun z => absurd (numlen z).1 (by omega)⟩
    have c1' : (1 : Int) ≤ (t.length : Nat) := of_decide_eq_true c1
    refine ⟨_, _, rfl, rfl, _, rfl, ?_⟩
    by_cases c2 : ((t.length : Nat) : Int) ≤ 4
    case neg =>
      rw [decide_eq_false c2]
      refine iteT ?_
      exact k _ _ (Same.refl _) ⟨fun z => (by cases z), fun z => absurd (numlen z).2 (by omega)⟩
    rw [decide_eq_true c2]
    refine iteF ?_
    refine ⟨_, rfl, _, rfl, fun D hD => ?_⟩
    have hsz : t.cps.size = (tl t).length := hl
    refine lc_it walk_str (fun i H' => Same H H' ∧ H' D = some (.lst (((letters t).take i).map V.bl))) ⟨same_new hD, upd_same⟩ (fun _ _ _ _ => trivial) (fun i x H1 H' hi hP hY => ?_) (fun H1 hP => ?_)
    · obtain ⟨sm, hL⟩ := hP
      obtain ⟨rfl, c, hc, rfl⟩ := hY
      have hc2 : (letters t)[i]? = some (decide (c ∈ ("123456789" : Str).cps.toList)) := by
        unfold letters
        rw [List.getElem?_map, cps_at hc]
        rfl
      refine ⟨rfl, yesT ?_⟩
      refine ⟨_, rfl, _, _, rfl, rfl, _, hL, by rw [List.length_map, List.length_take]; exact small1000 (by omega), ?_⟩
      refine ⟨same_mut sm hD, ?_⟩
      rw [upd_same, take_succ_map _ hc2]
    · obtain ⟨sm, hL⟩ := hP
      have ell : (letters t).length = t.cps.size := by unfold letters; rw [List.length_map, hsz]
      rw [← ell, List.take_length] at hL
      refine ⟨D, letters t, rfl, SqL.of hL, _, rfl, ?_⟩
      by_cases c3 : (letters t).all id = true
      case neg =>
        rw [Bool.not_eq_true] at c3
        rw [c3]
        refine iteT ?_
        refine k _ _ sm ⟨fun z => (by cases z), fun ⟨ds, N, e⟩ => ?_⟩
        have q := letters_all.mpr (by rw [e]; exact num_codes N.dig : ∀ c ∈ tl t, c ∈ ("123456789" : Str).cps.toList)
        rw [c3] at q
        cases q
      rw [c3]
      refine iteF ?_
      obtain ⟨ds, dig, et⟩ := dig_text t (letters_all.mp c3)
      subst et
      rw [numS_len] at c1' c2
      refine ⟨_, rfl, _, rfl, fun D2 hD2 => ?_⟩
      refine lc_it walk_str (fun i H' => Same H H' ∧ H' D2 = some (.lst ((ds.take i).map fun (d : Nat) => V.int (d : Int)))) ⟨sm.trans (same_new hD2), upd_same⟩ (fun _ _ _ _ => trivial) (fun i x H2 H' hi hP hY => ?_) (fun H2 hP => ?_)
      · obtain ⟨sm2, hl2⟩ := hP
        obtain ⟨rfl, c, hc, rfl⟩ := hY
        rw [numS_size] at hi
        rw [numS_at ds i hi] at hc
        have hc' := (Option.some.inj hc).symm
        subst hc'
        refine ⟨rfl, yesT ?_⟩
        refine ⟨_, rfl, _, _, rfl, dig_int (dig _ (List.getElem_mem hi)), (by show 1 ≤ 640; decide), _, hl2, by rw [List.length_map, List.length_take]; exact small1000 (by omega), ?_⟩
        refine ⟨same_mut sm2 (sm.free hD2), ?_⟩
        rw [upd_same, take_succ_map _ (List.getElem?_eq_getElem hi)]
      · obtain ⟨sm2, hl2⟩ := hP
        rw [numS_size, List.take_length] at hl2
        refine ⟨D2, ds.map fun (d : Nat) => (d : Int), rfl, SqL.of (by rw [hl2, List.map_map]; rfl), _, _, rfl, rfl, ?_⟩
        rw [sum_cast]
        refine k _ _ sm2 ?_
        rw [isnum_dig]
        constructor
        · intro z
          have z' : ((ds.sum : Nat) : Int) ≤ 24 := of_decide_eq_true z
          exact ⟨by omega, by omega, dig, by omega⟩
        · intro N
          exact decide_eq_true (show ((ds.sum : Nat) : Int) ≤ 24 by have := N.sum; omega)
end
end K54

namespace K54
open PySem L2 Wm TL Dv De
section
variable {P : Program} {w : World} {K : PySem.W.Frag} {mg : Str → Option Value} {base : Heap}
theorem bools {g : PyData → Bool} : ∀ {ys : List V} {ds : List PyData}, ys.length = ds.length → (∀ (i : Nat) y, ys[i]? = some y → ∃ d, ds[i]? = some d ∧ y = .bl (g d)) → ys = (ds.map g).map V.bl
  | [], [], _, _ => rfl
  | y :: ys, d :: ds, l, h => by
    obtain ⟨d2, e, e2⟩ := h 0 y rfl
    cases e
    rw [List.map_cons, List.map_cons, ← bools (g := g) (by simpa using l) fun i z hz => h (i + 1) z hz, e2]
theorem all_id {g : PyData → Bool} (ds : List PyData) : (ds.map g).all id = ds.all g := by
  rw [List.all_map]
  rfl
/-- each once -/
def dd : List Int → List Int
  | [] => []
  | x :: xs => if x ∈ xs then dd xs else x :: dd xs
theorem dd_mem {k : Int} : ∀ {xs : List Int}, k ∈ dd xs ↔ k ∈ xs
  | [] => Iff.rfl
  | x :: xs => by
    unfold dd
    split
    · rename_i c
      rw [dd_mem, List.mem_cons]
      exact ⟨.inr, fun h => h.elim (fun e => e ▸ c) id⟩
    · rw [List.mem_cons, List.mem_cons, dd_mem]
theorem dd_nd : ∀ xs : List Int, (dd xs).Nodup
  | [] => List.nodup_nil
  | x :: xs => by
    unfold dd
    split
    · exact dd_nd xs
    · rename_i c
      exact List.nodup_cons.mpr ⟨fun h => c (dd_mem.mp h), dd_nd xs⟩
theorem dd_le : ∀ xs : List Int, (dd xs).length ≤ xs.length
  | [] => Nat.le_refl _
  | x :: xs => by
    unfold dd
    have := dd_le xs
    split
    · rw [List.length_cons]; omega
    · rw [List.length_cons, List.length_cons]; omega
theorem dd_len : ∀ xs : List Int, (dd xs).length = xs.length ↔ xs.Nodup
  | [] => ⟨fun _ => List.nodup_nil, fun _ => rfl⟩
  | x :: xs => by
    unfold dd
    have l := dd_le xs
    split
    · rename_i c
      rw [List.length_cons]
      exact ⟨fun h => absurd h (by omega), fun h => absurd c (List.nodup_cons.mp h).1⟩
    · rename_i c
      rw [List.length_cons, List.length_cons, List.nodup_cons, ← dd_len xs]
      exact ⟨fun h => ⟨c, by omega⟩, fun h => by omega⟩
/-- whole numbers all: as values -/
theorem ints_of {H : Hp} : ∀ {xs : List V} {ds : List PyData}, Ens K N H xs ds → ds.all crewB = true → xs = (ds.map intD).map V.int
  | _, [], h, _ => by cases h; rfl
  | _, d :: ds, h, e => by
    rw [List.all_cons] at e
    obtain ⟨e1, e2⟩ := Bool.and_eq_true_iff.mp e
    cases h with
    | cons a b =>
      cases a with
      | int i => rw [ints_of b e2]; rfl
      | _ => cases e1
theorem ok_is_station (T : Txt K mg) : FnOk P w K mg base CX0 3 T.a_is_station T.d_is_station ["thing"] (sp_is_station K) := by
  refine T.F_is_station.ok sc_is_station (fun vs H Q E h => ?_) (fun cdv A outer s H vs Q E hr h => ?_)
  · obtain ⟨v, d, N, rfl, _⟩ := h
    rfl
  · obtain ⟨v, d, N, rfl, hd, k⟩ := h
    refine ⟨_, (pss_one (ps_ret (pe_call (ok_is_whole_within T) (hr.mono (by decide)) (by rfl) T.g_is_whole_within T.F_is_whole_within.kp T.b_is_whole_within .nil pass0 (pa_cons (pv 0) (pa_cons pe_int (pa_cons (pe_glob (v := V.int 8) rfl T.c_LAST_STATION ⟨_, rfl⟩) pa_nil)))))), ?_⟩
    exact ⟨_, rfl, v, d, N, 0, 8, rfl, hd, k⟩
theorem ok_is_crew (T : Txt K mg) : FnOk P w K mg base CX0 3 T.a_is_crew T.d_is_crew ["thing"] (sp_is_crew K) := by
  refine T.F_is_crew.ok sc_is_crew (fun vs H Q E h => ?_) (fun cdv A outer s H vs Q E hr h => ?_)
  · obtain ⟨v, d, N, rfl, _⟩ := h
    rfl
  · obtain ⟨v, d, N, rfl, hd, k⟩ := h
    refine ⟨_, (pss_one (ps_ret (pe_call (ok_is_whole_within T) (hr.mono (by decide)) (by rfl) T.g_is_whole_within T.F_is_whole_within.kp T.b_is_whole_within .nil pass0 (pa_cons (pv 0) (pa_cons pe_int (pa_cons (pe_glob (v := V.int 5) rfl T.c_LAST_CREW ⟨_, rfl⟩) pa_nil)))))), ?_⟩
    exact ⟨_, rfl, v, d, N, 0, 5, rfl, hd, k⟩
theorem ok_is_stations (T : Txt K mg) : FnOk P w K mg base CX0 4 T.a_is_stations T.d_is_stations ["thing"] (sp_is_stations K) := by
  refine T.F_is_stations.ok sc_is_stations (fun vs H Q E h => ?_) (fun cdv A outer s H vs Q E hr h => ?_)
  · obtain ⟨v, d, N, rfl, _⟩ := h
    rfl
  · obtain ⟨v, d, N, rfl, hd, k⟩ := h
    refine ⟨_, (pss_cons (ps_if (PW.pt (pw_or (pt_not (pt_val (pe_call (ok_is_sequence T) (hr.mono (by decide)) (by rfl) T.g_is_sequence T.F_is_sequence.kp T.b_is_sequence .nil pass0 (pa_cons (pv 0) pa_nil)))) (pw_or1 (pt_not (pt_chain op_le op_le pe_int (pe_callB call_len_seq (by rfl) T.z_len PySem.boot_len (pa_cons (pv 0) pa_nil)) (pe_glob (v := V.int 6) rfl T.c_MOST_CREWS ⟨_, rfl⟩))))))
        (pss_one (ps_ret pe_bl))
        pss_nil)
      (pss_one (ps_ret (pe_callB (cr_all rfl) (by rfl) T.z_all (by decide +kernel) (pa_cons (pe_lc (own := [("station", 1)]) (g := gName 1) (tt := tYes) rfl sc_is_stations.nd (Kd.pi_seq (pv 0)) (blkOk_by (own := [("station", 1)]) (N := nm_is_stations) (sc := (defScope s_is_stations)) (by decide +kernel)) (fun _ _ _ _ _ => pg_name (i := 1) sc_is_stations.nd rfl (Or.inl rfl)) (fun _ _ _ _ _ => pts_nil) (fun _ _ _ _ _ => (pe_call (ok_is_station T) (hr.mono (by decide)) (by rfl) T.g_is_station T.F_is_station.kp T.b_is_station .nil pass0 (pa_cons (pv 1) pa_nil)))) pa_nil))))), ?_⟩
    refine ⟨_, rfl, v, d, N, rfl, hd, fun H1 s1 => ⟨seqB d, rfl, ?_⟩⟩
    cases e : seqB d with
    | false =>
      have e2 : stationsB d = false := by
        unfold stationsB
        rw [row_no e]
        rfl
      rw [e2] at k
      exact iteT (iteT (k _ s1))
    | true =>
      obtain ⟨p, xs, t, rfl, hS, hds, _⟩ := seq_en (hd.ks s1) e
      have lx := hds.len
      refine iteF ⟨_, rfl, p, _, rfl, hS.sq, _, _, rfl, rfl, _, rfl, ?_⟩
      have ek : stationsB d = ((decide (1 ≤ xs.length) && decide (xs.length ≤ 6)) && (itm d).all statB) := by
        unfold stationsB
        rw [row_en e, lx]
      rw [show (1 : Int) = ((1 : Nat) : Int) from rfl, dec_nat]
      cases c1 : decide (1 ≤ xs.length) with
      | false =>
        rw [ek, c1] at k
        exact iteF ⟨false, rfl, iteT (k _ s1)⟩
      | true =>
        refine iteT ⟨_, _, rfl, rfl, _, rfl, ?_⟩
        rw [show (6 : Int) = ((6 : Nat) : Int) from rfl, dec_nat]
        cases c2 : decide (xs.length ≤ 6) with
        | false =>
          rw [ek, c1, c2] at k
          exact iteT (k _ s1)
        | true =>
          rw [ek, c1, c2] at k
          have c3 := of_decide_eq_true c2
          refine iteF ?_
          refine ⟨_, rfl, p, xs, t, rfl, hS, fun J GG w hG D hD => ?_⟩
          refine Lm.lc_map (K := K) w (fun i y _ => ∃ z, (itm d)[i]? = some z ∧ y = .bl (statB z)) (fun _ _ _ _ h _ => h) hD (by omega) (fun H' s => hG _ (hS.keep s)) (fun i x H' hi hx sm Q2 Z q => ?_) (fun H2 ys s2 hy ly hR => ?_)
          · obtain ⟨z, hz, dz⟩ := hds.at hx
            exact ⟨rfl, yesT ⟨_, rfl, x, z, N, rfl, dz.ks sm, q _ _ (Same.refl _) ⟨z, hz, rfl⟩⟩⟩
          · rw [bools (g := statB) (by omega) hR] at hy
            refine ⟨D, _, rfl, SqL.of hy, ?_⟩
            rw [all_id]
            exact k _ (s1.trans s2)
theorem ok_is_order (T : Txt K mg) : FnOk P w K mg base CX0 4 T.a_is_order T.d_is_order ["thing"] (sp_is_order K) := by
  refine T.F_is_order.ok sc_is_order (fun vs H Q E h => ?_) (fun cdv A outer s H vs Q E hr h => ?_)
  · obtain ⟨v, d, N, rfl, _⟩ := h
    rfl
  · obtain ⟨v, d, N, rfl, hd, l1000, k⟩ := h
    refine ⟨_, (pss_cons (ps_if (PW.pt (pw_or (pt_not (pt_val (pe_call (ok_is_sequence T) (hr.mono (by decide)) (by rfl) T.g_is_sequence T.F_is_sequence.kp T.b_is_sequence .nil pass0 (pa_cons (pv 0) pa_nil)))) (pw_or1 (pt_not (pt_val (pe_callB (cr_all rfl) (by rfl) T.z_all (by decide +kernel) (pa_cons (pe_lc (own := [("crew", 1)]) (g := gName 1) (tt := tYes) rfl sc_is_order.nd (Kd.pi_seq (pv 0)) (blkOk_by (own := [("crew", 1)]) (N := nm_is_order) (sc := (defScope s_is_order)) (by decide +kernel)) (fun _ _ _ _ _ => pg_name (i := 1) sc_is_order.nd rfl (Or.inl rfl)) (fun _ _ _ _ _ => pts_nil) (fun _ _ _ _ _ => (pe_call (ok_is_crew T) (hr.mono (by decide)) (by rfl) T.g_is_crew T.F_is_crew.kp T.b_is_crew .nil pass0 (pa_cons (pv 1) pa_nil)))) pa_nil)))))))
        (pss_one (ps_ret pe_bl))
        pss_nil)
      (pss_one (ps_ret (pe_cmpR op_eq (pe_callB Lns.call_lenN (by rfl) T.z_len (by decide +kernel) (pa_cons (pe_callTy (Si.call_set (by rfl)) (by rfl) T.z_set (by decide +kernel) (pa_cons (pv 0) pa_nil)) pa_nil)) (pe_callB call_len_seq (by rfl) T.z_len PySem.boot_len (pa_cons (pv 0) pa_nil)) (nomark _))))), ?_⟩
    refine ⟨_, rfl, v, d, N, rfl, hd, fun H1 s1 => ⟨seqB d, rfl, ?_⟩⟩
    cases e : seqB d with
    | false =>
      have e2 : orderB d = false := by
        unfold orderB
        rw [e]
        rfl
      rw [e2] at k
      exact iteT (iteT (k _ s1))
    | true =>
      obtain ⟨p, xs, t, rfl, hS, hds, _⟩ := seq_en (hd.ks s1) e
      have lx := hds.len
      have ek : orderB d = ((itm d).all crewB && decide ((itm d).map intD).Nodup) := by
        unfold orderB
        rw [e]
        rfl
      refine iteF ⟨_, rfl, p, xs, t, rfl, hS, fun J GG w hG D hD => ?_⟩
      refine Lm.lc_map (K := K) w (fun i y _ => ∃ z, (itm d)[i]? = some z ∧ y = .bl (crewB z)) (fun _ _ _ _ h _ => h) hD (by omega) (fun H' s => hG _ (hS.keep s)) (fun i x H' hi hx sm Q2 Z q => ?_) (fun H2 ys s2 hy ly hR => ?_)
      · obtain ⟨z, hz, dz⟩ := hds.at hx
        exact ⟨rfl, yesT ⟨_, rfl, x, z, N, rfl, dz.ks sm, q _ _ (Same.refl _) ⟨z, hz, rfl⟩⟩⟩
      · rw [bools (g := crewB) (by omega) hR] at hy
        refine ⟨D, _, rfl, SqL.of hy, ?_⟩
        rw [all_id]
        have s12 := s1.trans s2
        cases c : (itm d).all crewB with
        | false =>
          rw [ek, c] at k
          exact ⟨_, rfl, iteT (k _ s12)⟩
        | true =>
          rw [ek, c] at k
          refine ⟨_, rfl, iteF ?_⟩
          have ex := ints_of hds c
          have hS2 := hS.keep s2
          have sq : SqL K H2 p (((itm d).map intD).map V.int) ∨ SqT K H2 p (((itm d).map intD).map V.int) := by
            rw [← ex]
            exact lenK hS2
          refine ⟨_, rfl, p, _, rfl, sq, by rw [List.length_map]; omega, fun S c0 hc hS3 => ?_⟩
          rw [List.length_map] at hc
          refine ⟨S, _, c0, dd ((itm d).map intD), rfl, upd_same, by omega, dd_nd _, fun k => decide_eq_true_iff.trans dd_mem.symm, ?_⟩
          generalize SetO _ S _ c0 = so
          have s3 := same_new (o := so) hS3
          refine ⟨_, rfl, p, _, rfl, (hS2.keep s3).sq, rfl, ?_⟩
          have ed : decide (V.int (((dd ((itm d).map intD)).length : Nat) : Int) = V.int ((xs.length : Nat) : Int)) = decide ((itm d).map intD).Nodup := by
            refine decide_eq_decide.mpr (Iff.trans ?_ (dd_len _))
            rw [List.length_map, ← lx]
            exact ⟨fun h => by have := V.int.inj h; omega, fun h => by rw [h]⟩
          rw [ed]
          exact k _ (s12.trans s3)
theorem ok_are_counts (T : Txt K mg) : FnOk P w K mg base CX0 3 T.a_are_counts T.d_are_counts ["thing"] (sp_are_counts K) := by
  refine T.F_are_counts.ok sc_are_counts (fun vs H Q E h => ?_) (fun cdv A outer s H vs Q E hr h => ?_)
  · obtain ⟨v, d, N, rfl, _⟩ := h
    rfl
  · obtain ⟨v, d, N, rfl, hd, k⟩ := h
    refine ⟨_, (pss_cons (ps_if (PW.pt (pw_or (pt_not (pt_val (pe_call (ok_is_sequence T) (hr.mono (by decide)) (by rfl) T.g_is_sequence T.F_is_sequence.kp T.b_is_sequence .nil pass0 (pa_cons (pv 0) pa_nil)))) (pw_or1 (pt_cmpR op_ne (pe_callB call_len_seq (by rfl) T.z_len PySem.boot_len (pa_cons (pv 0) pa_nil)) (ClX.pe_cval (pe_glob (v := V.ref T.CC) rfl T.gCC rfl)) (nomark _)))))
        (pss_one (ps_ret pe_bl))
        pss_nil)
      (pss_one (ps_ret (pe_callB (cr_all rfl) (by rfl) T.z_all (by decide +kernel) (pa_cons (pe_lc (own := [("count", 1)]) (g := gName 1) (tt := tYes) rfl sc_are_counts.nd (Kd.pi_seq (pv 0)) (blkOk_by (own := [("count", 1)]) (N := nm_are_counts) (sc := (defScope s_are_counts)) (by decide +kernel)) (fun _ _ _ _ _ => pg_name (i := 1) sc_are_counts.nd rfl (Or.inl rfl)) (fun _ _ _ _ _ => pts_nil) (fun _ _ _ _ _ => (pe_call (ok_is_whole_within T) (hr.mono (by decide)) (by rfl) T.g_is_whole_within T.F_is_whole_within.kp T.b_is_whole_within .nil pass0 (pa_cons (pv 1) (pa_cons pe_int (pa_cons (pe_glob (v := V.int 6) rfl T.c_MOST_CREWS ⟨_, rfl⟩) pa_nil)))))) pa_nil))))), ?_⟩
    refine ⟨_, rfl, v, d, N, rfl, hd, fun H1 s1 => ⟨seqB d, rfl, ?_⟩⟩
    cases e : seqB d with
    | false =>
      have e2 : countsB d = false := by
        unfold countsB
        rw [row_no e]
        rfl
      rw [e2] at k
      exact iteT (iteT (k _ s1))
    | true =>
      obtain ⟨p, xs, t, rfl, hS, hds, _⟩ := seq_en (hd.ks s1) e
      have lx := hds.len
      refine iteF ⟨_, rfl, p, _, rfl, hS.sq, T.CC, T.mcC, _, _, rfl, T.rdC, T.vG, rfl, _, rfl, ?_⟩
      have ek : countsB d = (decide (xs.length = 3) && (itm d).all fun x => wbD x 0 6) := by
        unfold countsB
        rw [row_en e, lx]
        congr 1
        by_cases c : (itm d).length = 3
        · rw [c]; rfl
        · rw [decide_eq_false c]
          by_cases c2 : 3 ≤ (itm d).length
          · rw [decide_eq_true c2, decide_eq_false (show ¬ (itm d).length ≤ 3 by omega)]; rfl
          · rw [decide_eq_false c2]; rfl
      have en : (!decide (V.int ((xs.length : Nat) : Int) = V.int 3)) = !decide (xs.length = 3) := by
        congr 1
        exact decide_eq_decide.mpr ⟨fun h => by have := V.int.inj h; omega, fun h => by rw [h]; rfl⟩
      rw [en]
      cases c : decide (xs.length = 3) with
      | false =>
        rw [ek, c] at k
        exact iteT (k _ s1)
      | true =>
        rw [ek, c] at k
        have c3 := of_decide_eq_true c
        refine iteF ?_
        refine ⟨_, rfl, p, xs, t, rfl, hS, fun J GG w hG D hD => ?_⟩
        refine Lm.lc_map (K := K) w (fun i y _ => ∃ z, (itm d)[i]? = some z ∧ y = .bl (wbD z 0 6)) (fun _ _ _ _ h _ => h) hD (by omega) (fun H' s => hG _ (hS.keep s)) (fun i x H' hi hx sm Q2 Z q => ?_) (fun H2 ys s2 hy ly hR => ?_)
        · obtain ⟨z, hz, dz⟩ := hds.at hx
          exact ⟨rfl, yesT ⟨_, rfl, x, z, N, 0, 6, rfl, dz.ks sm, q _ _ (Same.refl _) ⟨z, hz, rfl⟩⟩⟩
        · rw [bools (g := fun x => wbD x 0 6) (by omega) hR] at hy
          refine ⟨D, _, rfl, SqL.of hy, ?_⟩
          rw [all_id]
          exact k _ (s1.trans s2)
end
end K54

namespace K54
open PySem L2 Wm TL Dv De
section
variable {P : Program} {w : World} {K : PySem.W.Frag} {mg : Str → Option Value} {base : Heap}
theorem fst_at {ds : List PyData} {d : PyData} (h : seqO d = some ds) (l : ds.length = 2) : ∃ a b, ds = [a, b] ∧ fstD d = a ∧ sndD d = b := by
  match ds, l with
  | [a, b], _ => exact ⟨a, b, rfl, by unfold fstD itm; rw [h]; rfl, by unfold sndD itm; rw [h]; rfl⟩
theorem ixK {t : Bool} {H : Hp} {p : Addr} {xs : List V} {i : Int} {v : V} {Q : V → Hp → Prop} (h : Kd.Is K t H p xs) (e : atI xs i = some v) (q : Q v H) : Dz.rIxLT K (.ref p) (.int i) H Q := by
  cases t
  · exact .inl ⟨p, xs, i, v, rfl, rfl, h, e, q⟩
  · exact .inr ⟨p, xs, i, v, rfl, rfl, h, e, q⟩
theorem ok_is_move (T : Txt K mg) : FnOk P w K mg base CX0 4 T.a_is_move T.d_is_move ["thing"] (sp_is_move K) := by
  refine T.F_is_move.ok sc_is_move (fun vs H Q E h => ?_) (fun cdv A outer s H vs Q E hr h => ?_)
  · obtain ⟨v, d, N, rfl, _⟩ := h
    rfl
  · obtain ⟨v, d, N, rfl, hd, k⟩ := h
    refine ⟨_, (pss_one (ps_ret (pe_and (pe_call (ok_is_sequence T) (hr.mono (by decide)) (by rfl) T.g_is_sequence T.F_is_sequence.kp T.b_is_sequence .nil pass0 (pa_cons (pv 0) pa_nil)) (pe_and (pe_cmpR op_eq (pe_callB call_len_seq (by rfl) T.z_len PySem.boot_len (pa_cons (pv 0) pa_nil)) pe_int (nomark _)) (pe_and (pe_call (ok_is_crew T) (hr.mono (by decide)) (by rfl) T.g_is_crew T.F_is_crew.kp T.b_is_crew .nil pass0 (pa_cons (pe_ix (show IxR _ (Dz.rIxLT K) from Dz.ix_lt) (pv 0) pe_int (fun _ _ => rfl)) pa_nil)) (pe_one (pe_call (ok_is_station T) (hr.mono (by decide)) (by rfl) T.g_is_station T.F_is_station.kp T.b_is_station .nil pass0 (pa_cons (pe_ix (show IxR _ (Dz.rIxLT K) from Dz.ix_lt) (pv 0) pe_int (fun _ _ => rfl)) pa_nil)))))))), ?_⟩
    refine ⟨_, rfl, v, d, N, rfl, hd, fun H1 s1 => ⟨seqB d, rfl, ?_⟩⟩
    cases e : seqB d with
    | false =>
      have e2 : moveB d = false := by
        unfold moveB
        rw [row_no e]
        rfl
      rw [e2] at k
      exact iteF (k _ s1)
    | true =>
      obtain ⟨p, xs, t, rfl, hS, hds, so⟩ := seq_en (hd.ks s1) e
      have lx := hds.len
      have er : rowB d 2 2 = decide (xs.length = 2) := by
        rw [row_en e, lx]
        by_cases c : (itm d).length = 2
        · rw [c]; rfl
        · rw [decide_eq_false c]
          by_cases c2 : 2 ≤ (itm d).length
          · rw [decide_eq_true c2, decide_eq_false (show ¬ (itm d).length ≤ 2 by omega)]; rfl
          · rw [decide_eq_false c2]; rfl
      have en : decide (V.int ((xs.length : Nat) : Int) = V.int 2) = decide (xs.length = 2) :=
        decide_eq_decide.mpr ⟨fun h => by have := V.int.inj h; omega, fun h => by rw [h]; rfl⟩
      refine iteT ⟨_, rfl, p, _, rfl, hS.sq, rfl, ?_⟩
      rw [en]
      unfold moveB at k
      rw [er] at k
      cases c : decide (xs.length = 2) with
      | false =>
        rw [c] at k
        exact ⟨_, rfl, iteF (k _ s1)⟩
      | true =>
        rw [c] at k
        have c2 := of_decide_eq_true c
        obtain ⟨a, b, ei, ea, eb⟩ := fst_at so (by omega)
        rw [ei] at hds
        cases hds with
        | @cons v1 _ _ _ h1 r1 =>
          cases r1 with
          | @cons v2 _ _ _ h2 r2 =>
            cases r2
            refine ⟨_, rfl, iteT ?_⟩
            refine ⟨_, rfl, ixK (v := v1) hS rfl ⟨v1, a, N, rfl, h1, crewB a, rfl, ?_⟩⟩
            rw [ea, eb] at k
            cases c1 : crewB a with
            | false =>
              rw [c1] at k
              exact iteF (k _ s1)
            | true =>
              rw [c1] at k
              exact iteT ⟨_, rfl, ixK (v := v2) hS rfl ⟨v2, b, N, rfl, h2, k _ s1⟩⟩
theorem ok_are_moves (T : Txt K mg) : FnOk P w K mg base CX0 5 T.a_are_moves T.d_are_moves ["thing"] (sp_are_moves K) := by
  refine T.F_are_moves.ok sc_are_moves (fun vs H Q E h => ?_) (fun cdv A outer s H vs Q E hr h => ?_)
  · obtain ⟨v, d, N, rfl, _⟩ := h
    rfl
  · obtain ⟨v, d, N, rfl, hd, k⟩ := h
    refine ⟨_, (pss_cons (ps_if (PW.pt (pw_or (pt_not (pt_val (pe_call (ok_is_sequence T) (hr.mono (by decide)) (by rfl) T.g_is_sequence T.F_is_sequence.kp T.b_is_sequence .nil pass0 (pa_cons (pv 0) pa_nil)))) (pw_or1 (pt_cmpR op_gt (pe_callB call_len_seq (by rfl) T.z_len PySem.boot_len (pa_cons (pv 0) pa_nil)) (pe_glob (v := V.int 6) rfl T.c_MOST_MOVES ⟨_, rfl⟩) (nomark _)))))
        (pss_one (ps_ret pe_bl))
        pss_nil)
      (pss_one (ps_ret (pe_callB (cr_all rfl) (by rfl) T.z_all (by decide +kernel) (pa_cons (pe_lc (own := [("move", 1)]) (g := gName 1) (tt := tYes) rfl sc_are_moves.nd (Kd.pi_seq (pv 0)) (blkOk_by (own := [("move", 1)]) (N := nm_are_moves) (sc := (defScope s_are_moves)) (by decide +kernel)) (fun _ _ _ _ _ => pg_name (i := 1) sc_are_moves.nd rfl (Or.inl rfl)) (fun _ _ _ _ _ => pts_nil) (fun _ _ _ _ _ => (pe_call (ok_is_move T) (hr.mono (by decide)) (by rfl) T.g_is_move T.F_is_move.kp T.b_is_move .nil pass0 (pa_cons (pv 1) pa_nil)))) pa_nil))))), ?_⟩
    refine ⟨_, rfl, v, d, N, rfl, hd, fun H1 s1 => ⟨seqB d, rfl, ?_⟩⟩
    cases e : seqB d with
    | false =>
      have e2 : movesB d = false := by
        unfold movesB
        rw [e]
        rfl
      rw [e2] at k
      exact iteT (iteT (k _ s1))
    | true =>
      obtain ⟨p, xs, t, rfl, hS, hds, _⟩ := seq_en (hd.ks s1) e
      have lx := hds.len
      have ek : movesB d = (decide (xs.length ≤ 6) && (itm d).all moveB) := by
        unfold movesB
        rw [e, lx]
        rfl
      refine iteF ⟨_, rfl, p, _, rfl, hS.sq, _, _, rfl, rfl, _, rfl, ?_⟩
      have en : decide ((6 : Int) < ((xs.length : Nat) : Int)) = !decide (xs.length ≤ 6) := by
        by_cases c : xs.length ≤ 6
        · rw [decide_eq_true c, decide_eq_false (by omega)]; rfl
        · rw [decide_eq_false c, decide_eq_true (by omega)]; rfl
      rw [en]
      cases c : decide (xs.length ≤ 6) with
      | false =>
        rw [ek, c] at k
        exact iteT (k _ s1)
      | true =>
        rw [ek, c] at k
        have c3 := of_decide_eq_true c
        refine iteF ?_
        refine ⟨_, rfl, p, xs, t, rfl, hS, fun J GG w hG D hD => ?_⟩
        refine Lm.lc_map (K := K) w (fun i y _ => ∃ z, (itm d)[i]? = some z ∧ y = .bl (moveB z)) (fun _ _ _ _ h _ => h) hD (by omega) (fun H' s => hG _ (hS.keep s)) (fun i x H' hi hx sm Q2 Z q => ?_) (fun H2 ys s2 hy ly hR => ?_)
        · obtain ⟨z, hz, dz⟩ := hds.at hx
          exact ⟨rfl, yesT ⟨_, rfl, x, z, N, rfl, dz.ks sm, fun H3 s3 => q _ _ s3 ⟨z, hz, rfl⟩⟩⟩
        · rw [bools (g := moveB) (by omega) hR] at hy
          refine ⟨D, _, rfl, SqL.of hy, ?_⟩
          rw [all_id]
          exact k _ (s1.trans s2)
end
end K54

namespace K54
open PySem L2 Wm TL Dv De
section
variable {P : Program} {w : World} {K : PySem.W.Frag} {mg : Str → Option Value} {base : Heap}
theorem putF_len (f : Str) (v : V) : ∀ fs : List (Str × V), (putF f v fs).length ≤ fs.length + 1
  | [] => by simp [putF]
  | (g, x) :: r => by
    have ih := putF_len f v r
    unfold putF
    split
    · simp
    · simp only [List.length_cons]
      omega
theorem Off.trans {p : Addr} {H H1 H2 : Hp} (a : Off p H H1) (b : Off p H1 H2) : Off p H H2 := fun q o n h => b q o n (a q o n h)
theorem Off.of {p : Addr} {H H' : Hp} (s : Same H H') : Off p H H' := fun q o _ h => s q o h
theorem Off.set {p : Addr} {H : Hp} {o : HO} : Off p H (upd H p o) := fun q u n h => by
  rw [upd_ne n]
  exact h
theorem Kt.off {H H' : Hp} {p C dx : Addr} {fs : List (Str × V)} (h : H p = some (.ins C dx fs)) (o : Off p H H') : Kt K H H' := fun a xs q => by
  have n : ∀ {u : HO}, H a = some u → (∀ C d f, u ≠ .ins C d f) → a ≠ p := fun e k z => by
    rw [z, h] at e
    exact k _ _ _ (Option.some.inj e).symm
  rcases q with (q | ⟨ob, q⟩) | q
  · exact .inl (.inl (o _ _ (n q fun _ _ _ z => by cases z) q))
  · exact .inl (.inr ⟨ob, o _ _ (n q fun _ _ _ z => by cases z) q⟩)
  · exact .inr q
theorem Is.off {H H' : Hp} {p C dx a : Addr} {fs : List (Str × V)} {t : Bool} {xs : List V} (h : H p = some (.ins C dx fs)) (o : Off p H H') (q : Kd.Is K t H a xs) : Kd.Is K t H' a xs := by
  cases t with
  | true => exact Kt.off h o a xs q
  | false =>
    have q : SqL K H a xs := q
    have n : ∀ {u : HO}, H a = some u → (∀ C d f, u ≠ .ins C d f) → a ≠ p := fun e k z => by
      rw [z, h] at e
      exact k _ _ _ (Option.some.inj e).symm
    rcases q with (q | ⟨ob, q⟩) | q
    · exact .inl (.inl (o _ _ (n q fun _ _ _ z => by cases z) q))
    · exact .inl (.inr ⟨ob, o _ _ (n q fun _ _ _ z => by cases z) q⟩)
    · exact .inr q
/-- tuple(a list or a tuple) -/
def rTupS (K : PySem.W.Frag) : List V → Hp → VK → Prop := fun xs H Q => ∃ p ys t, xs = [.ref p] ∧ Kd.Is K t H p ys ∧ ∀ r H', Same H H' → SqT K H' r ys → Q (.ref r) H'
theorem call_tupS {X : Cx} (e : X.K = K) : CallR X (.type "tuple") (rTupS K) := by
  subst e
  intro pins s σ H xs us Q I hv h
  obtain ⟨p, ys, t, rfl, hI, k⟩ := h
  refine call_tuple_of pins s σ H _ us Q I hv ⟨p, ys, rfl, ?_⟩
  cases t with
  | true => exact .inr ⟨hI, k p H (Same.refl _) hI⟩
  | false => exact .inl ⟨hI, fun l hl => k l _ (same_new hl) (.inl (.inl upd_same))⟩
/-! ### what no fault tells -/
theorem wb_nat {d : PyData} {k : Nat} (h : wbD d 0 (k : Int) = true) : ∃ n : Nat, n ≤ k ∧ d = .int (n : Int) := by
  cases d with
  | int i =>
    obtain ⟨a, b⟩ := Bool.and_eq_true_iff.mp h
    have a := of_decide_eq_true a
    have b := of_decide_eq_true b
    exact ⟨i.toNat, by omega, by rw [Int.toNat_of_nonneg a]⟩
  | _ => cases h
theorem nats_all {k : Nat} : ∀ {ds : List PyData}, (ds.all fun x => wbD x 0 (k : Int)) = true → ∃ ns : List Nat, ds = nD ns ∧ ∀ n ∈ ns, n ≤ k
  | [], _ => ⟨[], rfl, fun _ m => absurd m (List.not_mem_nil)⟩
  | d :: ds, h => by
    rw [List.all_cons] at h
    obtain ⟨a, b⟩ := Bool.and_eq_true_iff.mp h
    obtain ⟨n, l, rfl⟩ := wb_nat a
    obtain ⟨ns, rfl, l2⟩ := nats_all b
    exact ⟨n :: ns, rfl, fun m hm => by
      rcases List.mem_cons.mp hm with rfl | hm
      · exact l
      · exact l2 m hm⟩
theorem nD_len (ns : List Nat) : (nD ns).length = ns.length := List.length_map _
theorem nD_int (ns : List Nat) : (nD ns).map intD = ns.map fun (n : Nat) => (n : Int) := by
  unfold nD
  rw [List.map_map]
  rfl
theorem counts_of {d : PyData} (h : countsB d = true) : seqB d = true ∧ ∃ ns : List Nat, itm d = nD ns ∧ ns.length = 3 ∧ ∀ n ∈ ns, n ≤ 6 := by
  obtain ⟨a, b⟩ := Bool.and_eq_true_iff.mp h
  obtain ⟨s, l1, l2⟩ := row_seq a
  obtain ⟨ns, e, l⟩ := nats_all (k := 6) b
  rw [e, nD_len] at l1 l2
  exact ⟨s, ns, e, by omega, l⟩
theorem move_of {d : PyData} (h : moveB d = true) : seqB d = true ∧ ∃ x : Nat × Nat, PyData.tuple (itm d) = mD x ∧ x.1 ≤ 5 ∧ x.2 ≤ 8 := by
  obtain ⟨a, b⟩ := Bool.and_eq_true_iff.mp h
  obtain ⟨b, c⟩ := Bool.and_eq_true_iff.mp b
  obtain ⟨s, l1, l2⟩ := row_seq a
  unfold fstD at b
  unfold sndD at c
  match e : itm d, l1, l2 with
  | [x, y], _, _ =>
    rw [e] at b c
    obtain ⟨n, ln, rfl⟩ := wb_nat (k := 5) b
    obtain ⟨m, lm, rfl⟩ := wb_nat (k := 8) c
    exact ⟨s, (n, m), rfl, ln, lm⟩
  | [], l1, _ => exact absurd l1 (by simp)
  | [_], l1, _ => exact absurd l1 (by simp)
  | _ :: _ :: _ :: _, _, l2 => exact absurd l2 (by simp)
theorem moves_of : ∀ {ds : List PyData}, ds.all moveB = true → (∀ x ∈ ds, seqB x = true) ∧ ∃ ms : List (Nat × Nat), ds.map (fun x => PyData.tuple (itm x)) = ms.map mD ∧ ∀ x ∈ ms, x.1 ≤ 5 ∧ x.2 ≤ 8
  | [], _ => ⟨fun _ m => absurd m (List.not_mem_nil), [], rfl, fun _ m => absurd m (List.not_mem_nil)⟩
  | d :: ds, h => by
    rw [List.all_cons] at h
    obtain ⟨a, b⟩ := Bool.and_eq_true_iff.mp h
    obtain ⟨s, x, e, l⟩ := move_of a
    obtain ⟨ss, ms, es, ls⟩ := moves_of b
    refine ⟨fun y hy => ?_, x :: ms, ?_, fun y hy => ?_⟩
    · rcases List.mem_cons.mp hy with rfl | hy
      · exact s
      · exact ss y hy
    · rw [List.map_cons, List.map_cons, e, es]
    · rcases List.mem_cons.mp hy with rfl | hy
      · exact l
      · exact ls y hy
theorem nodup_nat : ∀ {ns : List Nat}, (ns.map fun (n : Nat) => (n : Int)).Nodup → ns.Nodup
  | [], _ => List.nodup_nil
  | n :: ns, h => by
    rw [List.map_cons, List.nodup_cons] at h
    exact List.nodup_cons.mpr ⟨fun m => h.1 (List.mem_map.mpr ⟨n, m, rfl⟩), nodup_nat h.2⟩
theorem fit_of {n o c w m : PyData} (h1 : numB n = true) (h2 : orderB o = true) (h3 : countsB c = true) (h4 : countsB w = true) (h5 : movesB m = true) : ∃ q, Fit n o c w m q ∧ CdOk q := by
  unfold numB at h1
  obtain ⟨ds, hds, rfl⟩ := @of_decide_eq_true _ (Classical.propDecidable _) h1
  obtain ⟨so, r⟩ := Bool.and_eq_true_iff.mp h2
  obtain ⟨ro, nd⟩ := Bool.and_eq_true_iff.mp r
  obtain ⟨os, eo, lo⟩ := nats_all (k := 5) ro
  obtain ⟨sc, cs, ec, lc, lc6⟩ := counts_of h3
  obtain ⟨sw, ws, ew, lw, lw6⟩ := counts_of h4
  obtain ⟨sm, r⟩ := Bool.and_eq_true_iff.mp h5
  obtain ⟨lm, rm⟩ := Bool.and_eq_true_iff.mp r
  obtain ⟨ss, ms, em, l6⟩ := moves_of rm
  have nd := of_decide_eq_true nd
  rw [eo, nD_int] at nd
  have lm := of_decide_eq_true lm
  have e2 := congrArg List.length em
  rw [List.length_map, List.length_map] at e2
  exact ⟨⟨ds, os, cs, ws, ms⟩, ⟨rfl, so, eo, sc, ec, sw, ew, sm, em, ss⟩, ⟨hds, lo, nodup_nat nd, lc, lc6, lw, lw6, by show ms.length ≤ 6; omega, l6⟩⟩
theorem nat_dts {H H' : Hp} : ∀ {xs : List V} {ns : List Nat}, Ens K N H xs (nD ns) → Dts K H' xs (nD ns)
  | _, [], h => by cases h; exact .nil
  | _, n :: ns, h => by
    cases h with
    | cons a b =>
      cases a
      exact .cons (.int _) (nat_dts b)
theorem dts_at {H : Hp} : ∀ {ys : List V} {ds : List PyData}, ys.length = ds.length → (∀ (i : Nat) y, ys[i]? = some y → ∃ d, ds[i]? = some d ∧ Dt K H y d) → Dts K H ys ds
  | [], [], _, _ => .nil
  | y :: ys, d :: ds, l, h => by
    obtain ⟨d2, e, e2⟩ := h 0 y rfl
    cases e
    exact .cons e2 (dts_at (by simpa using l) fun i z hz => h (i + 1) z hz)
theorem ok_cinit (T : Txt K mg) : FnOk P w K mg base (L2N.CX P w) 6 T.a_cinit T.d_cinit ["self", "number", "order", "counts", "owed", "moves"] (sp_cinit K T.CC T.CB) := by
  refine T.F_cinit.ok sc_cinit (fun vs H Q E h => ?_) (fun cdv A outer s H vs Q E hr h => ?_)
  · obtain ⟨p, dx, x1, x2, x3, x4, x5, n, o, c, w0, m, N, rfl, _⟩ := h
    rfl
  · obtain ⟨p, dx, x1, x2, x3, x4, x5, n, o, c, w0, m, N, rfl, hp, d1, d2, d3, d4, d5, tx, lo, kk, er⟩ := h
    refine ⟨_, (pss_cons (ps_if (pt_not (pt_val (pe_call (ok_is_number T) (hr.mono (by decide)) (by rfl) T.g_is_number T.F_is_number.kp T.b_is_number .nil pass0 (pa_cons (pv 1) pa_nil))))
        (pss_one (ps_raiseLowC rfl T.lowC hr (L2N.takes_of rfl rfl rfl rfl) (by exact (pa_cons pe_str pa_nil))))
        pss_nil)
      (pss_cons (ps_if (pt_not (pt_val (pe_call (ok_is_order T) (hr.mono (by decide)) (by rfl) T.g_is_order T.F_is_order.kp T.b_is_order .nil pass0 (pa_cons (pv 2) pa_nil))))
        (pss_one (ps_raiseLowC rfl T.lowC hr (L2N.takes_of rfl rfl rfl rfl) (by exact (pa_cons pe_str pa_nil))))
        pss_nil)
      (pss_cons (ps_if (pt_not (pt_val (pe_call (ok_are_counts T) (hr.mono (by decide)) (by rfl) T.g_are_counts T.F_are_counts.kp T.b_are_counts .nil pass0 (pa_cons (pv 3) pa_nil))))
        (pss_one (ps_raiseLowC rfl T.lowC hr (L2N.takes_of rfl rfl rfl rfl) (by exact (pa_cons pe_str pa_nil))))
        pss_nil)
      (pss_cons (ps_if (pt_not (pt_val (pe_call (ok_are_counts T) (hr.mono (by decide)) (by rfl) T.g_are_counts T.F_are_counts.kp T.b_are_counts .nil pass0 (pa_cons (pv 4) pa_nil))))
        (pss_one (ps_raiseLowC rfl T.lowC hr (L2N.takes_of rfl rfl rfl rfl) (by exact (pa_cons pe_str pa_nil))))
        pss_nil)
      (pss_cons (ps_if (pt_not (pt_val (pe_call (ok_are_moves T) (hr.mono (by decide)) (by rfl) T.g_are_moves T.F_are_moves.kp T.b_are_moves .nil pass0 (pa_cons (pv 5) pa_nil))))
        (pss_one (ps_raiseLowC rfl T.lowC hr (L2N.takes_of rfl rfl rfl rfl) (by exact (pa_cons pe_str pa_nil))))
        pss_nil)
      (pss_cons (ps_fld (pv 0) (pv 1) rfl)
      (pss_cons (ps_fld (pv 0) (pe_callTy (call_tupS (K := K) rfl) (by rfl) T.z_tuple (by decide +kernel) (pa_cons (pv 2) pa_nil)) rfl)
      (pss_cons (ps_fld (pv 0) (pe_callTy (call_tupS (K := K) rfl) (by rfl) T.z_tuple (by decide +kernel) (pa_cons (pv 3) pa_nil)) rfl)
      (pss_cons (ps_fld (pv 0) (pe_callTy (call_tupS (K := K) rfl) (by rfl) T.z_tuple (by decide +kernel) (pa_cons (pv 4) pa_nil)) rfl)
      (pss_one (ps_fld (pv 0) (pe_callTy (call_tupS (K := K) rfl) (by rfl) T.z_tuple (by decide +kernel) (pa_cons (pe_lc (own := [("move", 6)]) (g := gName 6) (tt := tYes) rfl sc_cinit.nd (Kd.pi_seq (pv 5)) (blkOk_by (own := [("move", 6)]) (N := nm_cinit) (sc := (defScope s_cinit)) (by decide +kernel)) (fun _ _ _ _ _ => pg_name (i := 6) sc_cinit.nd rfl (Or.inl rfl)) (fun _ _ _ _ _ => pts_nil) (fun _ _ _ _ _ => (pe_callTy (call_tupS (K := K) rfl) (by rfl) T.z_tuple (by decide +kernel) (pa_cons (pv 6) pa_nil)))) pa_nil)) rfl))))))))))), ?_⟩
    have low : ∀ {z : Str} {H1 : Hp}, Same H H1 → faultW n o c w0 m = some z → ∀ d, H1 d = none → E (.ref T.CB) (some d) (upd H1 d (.xd [(("what" : Str), .str z)])) := fun s e d hd => er _ e _ _ (s.trans (same_new hd)) upd_same
    refine ⟨_, rfl, x1, n, N, rfl, d1, tx, fun H1 s1 => ⟨numB n, rfl, ?_⟩⟩
    cases b1 : numB n with
    | false => exact iteT ⟨_, rfl, low s1 (by unfold faultW; rw [b1]; rfl)⟩
    | true =>
    refine iteF ⟨_, rfl, x2, o, N, rfl, d2.ks s1, lo, fun H2 s2 => ⟨orderB o, rfl, ?_⟩⟩
    have s2 := s1.trans s2
    cases b2 : orderB o with
    | false => exact iteT ⟨_, rfl, low s2 (by unfold faultW; rw [b1, b2]; rfl)⟩
    | true =>
    refine iteF ⟨_, rfl, x3, c, N, rfl, d3.ks s2, fun H3 s3 => ⟨countsB c, rfl, ?_⟩⟩
    have s3 := s2.trans s3
    cases b3 : countsB c with
    | false => exact iteT ⟨_, rfl, low s3 (by unfold faultW; rw [b1, b2, b3]; rfl)⟩
    | true =>
    refine iteF ⟨_, rfl, x4, w0, N, rfl, d4.ks s3, fun H4 s4 => ⟨countsB w0, rfl, ?_⟩⟩
    have s4 := s3.trans s4
    cases b4 : countsB w0 with
    | false => exact iteT ⟨_, rfl, low s4 (by unfold faultW; rw [b1, b2, b3, b4]; rfl)⟩
    | true =>
    refine iteF ⟨_, rfl, x5, m, N, rfl, d5.ks s4, fun H5 s5 => ⟨movesB m, rfl, ?_⟩⟩
    have s5 := s4.trans s5
    cases b5 : movesB m with
    | false => exact iteT ⟨_, rfl, low s5 (by unfold faultW; rw [b1, b2, b3, b4, b5]; rfl)⟩
    | true =>
    refine iteF ?_
    obtain ⟨q, fit, ok⟩ := fit_of b1 b2 b3 b4 b5
    have kq := kk q fit ok
    obtain ⟨fn, fos, fo, fcs, fc, fws, fw, fms, fm, fmq⟩ := fit
    rw [fn] at d1
    cases d1
    obtain ⟨po, xo, t2, rfl, hO, dO, _⟩ := seq_en (d2.ks s5) fos
    obtain ⟨pc, xc, t3, rfl, hC, dC, _⟩ := seq_en (d3.ks s5) fcs
    obtain ⟨pw, xw, t4, rfl, hW, dW, _⟩ := seq_en (d4.ks s5) fws
    obtain ⟨pm, xm, t5, rfl, hM, dM, _⟩ := seq_en (d5.ks s5) fms
    rw [fo] at dO
    rw [fc] at dC
    rw [fw] at dW
    have hp5 := s5 _ _ hp
    refine ⟨_, rfl, _, rfl, p, T.CC, dx, [], rfl, hp5, T.clCC, T.nNu, by show 0 < 1000; decide, ?_⟩
    have hpA : upd H5 p (.ins T.CC dx (putF "number" (.str (numS q.ds)) [])) p = some (.ins T.CC dx (putF "number" (.str (numS q.ds)) [])) := upd_same
    have oA : Off p H5 (upd H5 p (.ins T.CC dx (putF "number" (.str (numS q.ds)) []))) := Off.set
    have lA : ∀ g, (putF "number" (.str (numS q.ds)) ([] : List (Str × V))).lookup g = if g = "number" then some (.str (numS q.ds)) else none := fun g => lookup_putF _ _ _ _
    have zA : (putF "number" (V.str (numS q.ds)) ([] : List (Str × V))).length ≤ 1 := putF_len _ _ _
    generalize putF "number" (V.str (numS q.ds)) ([] : List (Str × V)) = fA at *
    generalize upd H5 p (.ins T.CC dx fA) = HA at *
    refine ⟨_, rfl, _, _, _, rfl, Is.off hp5 oA hO, fun r1 H6 s6 t1 => ⟨_, rfl, p, T.CC, dx, fA, rfl, s6 _ _ hpA, T.clCC, T.nOr, by omega, ?_⟩⟩
    have D1 : Dt K H6 (.ref r1) (iD q.order) := .tup t1 (nat_dts dO)
    have D1 := D1.k (Kt.off (s6 _ _ hpA) (Off.set (o := .ins T.CC dx (putF "order" (.ref r1) fA))))
    have hpB : upd H6 p (.ins T.CC dx (putF "order" (.ref r1) fA)) p = some (.ins T.CC dx (putF "order" (.ref r1) fA)) := upd_same
    have oB : Off p H5 (upd H6 p (.ins T.CC dx (putF "order" (.ref r1) fA))) := (oA.trans (.of s6)).trans Off.set
    have lB : ∀ g, (putF "order" (.ref r1) fA).lookup g = if g = "order" then some (.ref r1) else fA.lookup g := fun g => lookup_putF _ _ _ _
    have zB : (putF "order" (.ref r1) fA).length ≤ fA.length + 1 := putF_len _ _ _
    generalize putF "order" (.ref r1) fA = fB at *
    generalize upd H6 p (.ins T.CC dx fB) = HB at *
    refine ⟨_, rfl, _, _, _, rfl, Is.off hp5 oB hC, fun r2 H7 s7 t2 => ⟨_, rfl, p, T.CC, dx, fB, rfl, s7 _ _ hpB, T.clCC, T.nCo, by omega, ?_⟩⟩
    have D2 : Dt K H7 (.ref r2) (iD q.counts) := .tup t2 (nat_dts dC)
    have k2 := Kt.off (K := K) (s7 _ _ hpB) (Off.set (o := .ins T.CC dx (putF "counts" (.ref r2) fB)))
    have D2 := D2.k k2
    have D1 := (D1.k (Kt.same s7)).k k2
    have hpC : upd H7 p (.ins T.CC dx (putF "counts" (.ref r2) fB)) p = some (.ins T.CC dx (putF "counts" (.ref r2) fB)) := upd_same
    have oC : Off p H5 (upd H7 p (.ins T.CC dx (putF "counts" (.ref r2) fB))) := (oB.trans (.of s7)).trans Off.set
    have lC : ∀ g, (putF "counts" (.ref r2) fB).lookup g = if g = "counts" then some (.ref r2) else fB.lookup g := fun g => lookup_putF _ _ _ _
    have zC : (putF "counts" (.ref r2) fB).length ≤ fB.length + 1 := putF_len _ _ _
    clear k2
    generalize putF "counts" (.ref r2) fB = fC at *
    generalize upd H7 p (.ins T.CC dx fC) = HC at *
    refine ⟨_, rfl, _, _, _, rfl, Is.off hp5 oC hW, fun r3 H8 s8 t3 => ⟨_, rfl, p, T.CC, dx, fC, rfl, s8 _ _ hpC, T.clCC, T.nOw, by omega, ?_⟩⟩
    have D3 : Dt K H8 (.ref r3) (iD q.owed) := .tup t3 (nat_dts dW)
    have k3 := Kt.off (K := K) (s8 _ _ hpC) (Off.set (o := .ins T.CC dx (putF "owed" (.ref r3) fC)))
    have D3 := D3.k k3
    have D1 := (D1.k (Kt.same s8)).k k3
    have D2 := (D2.k (Kt.same s8)).k k3
    have hpD : upd H8 p (.ins T.CC dx (putF "owed" (.ref r3) fC)) p = some (.ins T.CC dx (putF "owed" (.ref r3) fC)) := upd_same
    have oD : Off p H5 (upd H8 p (.ins T.CC dx (putF "owed" (.ref r3) fC))) := (oC.trans (.of s8)).trans Off.set
    have lD : ∀ g, (putF "owed" (.ref r3) fC).lookup g = if g = "owed" then some (.ref r3) else fC.lookup g := fun g => lookup_putF _ _ _ _
    have zD : (putF "owed" (.ref r3) fC).length ≤ fC.length + 1 := putF_len _ _ _
    clear k3
    generalize putF "owed" (.ref r3) fC = fD at *
    generalize upd H8 p (.ins T.CC dx fD) = HD at *
    have lx := dM.len
    have lm : (itm m).length ≤ 6 := by
      have e := congrArg List.length fm
      rw [List.length_map, List.length_map] at e
      have := ok.m6
      omega
    refine ⟨_, rfl, pm, xm, t5, rfl, Is.off hp5 oD hM, fun J GG w2 hG D hD => ?_⟩
    refine Lm.lc_map (K := K) w2 (fun i y H' => ∃ z, (itm m)[i]? = some z ∧ Dt K H' y (.tuple (itm z))) (fun i y H1 H2 h s => by obtain ⟨z, a, b⟩ := h; exact ⟨z, a, b.k s⟩) hD (by omega) (fun H' s => hG _ ((Is.off hp5 oD hM).keep s)) (fun i x H' hi hx sm Q2 Z qq => ?_) (fun H9 ys s9 hy ly hR => ?_)
    · obtain ⟨z, hz, dz⟩ := dM.at hx
      have mz := List.mem_of_getElem? hz
      obtain ⟨px, ys, t6, rfl, hX, dX, _⟩ := seq_en dz (fmq z mz)
      have e6 : ∃ x, x ∈ q.moves ∧ PyData.tuple (itm z) = mD x := by
        have := List.mem_map_of_mem (f := fun x => PyData.tuple (itm x)) mz
        rw [fm] at this
        obtain ⟨x, hx, e⟩ := List.mem_map.mp this
        exact ⟨x, hx, e.symm⟩
      obtain ⟨x, _, ex⟩ := e6
      have ei : itm z = nD [x.1, x.2] := PyData.tuple.inj ex
      refine ⟨rfl, yesT ⟨_, rfl, px, ys, t6, rfl, (Is.off hp5 oD hX).keep sm, fun r6 H6 s6 t7 => qq _ _ s6 ⟨z, hz, ?_⟩⟩⟩
      rw [ei] at dX
      rw [ei]
      exact .tup t7 (nat_dts dX)
    · have dY : Dts K H9 ys (q.moves.map mD) := by
        rw [← fm]
        exact dts_at (by rw [List.length_map]; omega) fun i y hi => by
          obtain ⟨z, a, b⟩ := hR i y hi
          exact ⟨_, by rw [List.getElem?_map, a]; rfl, b⟩
      refine ⟨D, ys, false, rfl, SqL.of hy, fun r5 HE s10 t8 => ⟨_, rfl, p, T.CC, dx, fD, rfl, s10 _ _ (s9 _ _ hpD), T.clCC, T.nMo, by omega, ?_⟩⟩
      have s11 := s9.trans s10
      have D5 : Dt K HE (.ref r5) (mvD q.moves) := .tup t8 (dY.k (Kt.same s10))
      have k5 := Kt.off (K := K) (s11 _ _ hpD) (Off.set (o := .ins T.CC dx (putF "moves" (.ref r5) fD)))
      refine kq _ ((((Off.of s5).trans oD).trans (.of s11)).trans Off.set) ⟨dx, _, _, _, _, _, upd_same, ?_, ?_, (D1.k (Kt.same s11)).k k5, ?_, (D2.k (Kt.same s11)).k k5, ?_, (D3.k (Kt.same s11)).k k5, ?_, D5.k k5, fun g n1 n2 n3 n4 n5 => ?_⟩
      · rw [lookup_putF, if_neg (by decide +kernel), lD, if_neg (by decide +kernel), lC, if_neg (by decide +kernel), lB, if_neg (by decide +kernel), lA, if_pos rfl]
      · rw [lookup_putF, if_neg (by decide +kernel), lD, if_neg (by decide +kernel), lC, if_neg (by decide +kernel), lB, if_pos rfl]
      · rw [lookup_putF, if_neg (by decide +kernel), lD, if_neg (by decide +kernel), lC, if_pos rfl]
      · rw [lookup_putF, if_neg (by decide +kernel), lD, if_pos rfl]
      · rw [lookup_putF, if_pos rfl]
      · rw [lookup_putF, if_neg n5, lD, if_neg n4, lC, if_neg n3, lB, if_neg n2, lA, if_neg n1]
end
end K54

namespace K54
open PySem L2 Wm TL Dv De
section
variable {P : Program} {w : World} {K : PySem.W.Frag} {mg : Str → Option Value} {base : Heap}
/-! The mathematics of a card's text. -/
theorem spl_ne (S : List Nat) : ∀ (l acc : List Nat), spl S 0 acc l ≠ []
  | [], acc => by rw [spl_nil]; simp
  | c :: r, acc => by
    cases h : pre S (c :: r) with
    | true => rw [spl_hit h]; simp
    | false => rw [spl_miss h]; exact spl_ne S r _
theorem joinL_cons {S p : List Nat} {ps : List (List Nat)} (h : ps ≠ []) : joinL S (p :: ps) = p ++ (S ++ joinL S ps) := by
  cases ps with
  | nil => exact absurd rfl h
  | cons a b => rfl
theorem joinL_spl {S : List Nat} (hS : S ≠ []) : ∀ (n : Nat) (l acc : List Nat), l.length ≤ n → joinL S (spl S 0 acc l) = acc ++ l
  | _, [], acc, _ => by rw [spl_nil, List.append_nil]; rfl
  | 0, c :: r, acc, h => absurd h (by simp)
  | n + 1, c :: r, acc, h => by
    rw [List.length_cons] at h
    cases e : pre S (c :: r) with
    | true =>
      rw [spl_hit e, spl_pass, joinL_cons (spl_ne _ _ _), joinL_spl hS n _ [] (by rw [List.length_drop]; omega), List.nil_append]
      have e2 : (c :: r).take S.length = S := eq_of_beq e
      obtain ⟨s, S2, rfl⟩ := List.exists_cons_of_ne_nil hS
      rw [List.length_cons, List.take_succ_cons] at e2
      obtain ⟨e3, e4⟩ := List.cons.inj e2
      subst e3
      rw [List.length_cons, Nat.add_sub_cancel]
      have key := List.take_append_drop S2.length r
      rw [e4] at key
      show acc ++ (c :: (S2 ++ r.drop S2.length)) = _
      rw [key]
    | false =>
      rw [spl_miss e, joinL_spl hS n r _ (by omega), List.append_assoc]
      rfl
theorem join_spl {S l : List Nat} (hS : S ≠ []) : joinL S (spl S 0 [] l) = l := by
  rw [joinL_spl hS l.length l [] (Nat.le_refl _), List.nil_append]
theorem par_app {S : List Nat} : ∀ (l acc a b : List Nat), par S acc l = some (a, b) → acc ++ l = a ++ (S ++ b)
  | [], _, _, _, h => by cases h
  | c :: r, acc, a, b, h => by
    cases e : pre S (c :: r) with
    | true =>
      have h : (if pre S (c :: r) = true then some (acc, (c :: r).drop S.length) else par S (acc ++ [c]) r) = some (a, b) := h
      rw [if_pos e] at h
      obtain ⟨rfl, rfl⟩ := Prod.mk.inj (Option.some.inj h)
      have e2 : (c :: r).take S.length = S := eq_of_beq e
      have := List.take_append_drop S.length (c :: r)
      rw [e2] at this
      rw [this]
    | false =>
      have h : (if pre S (c :: r) = true then some (acc, (c :: r).drop S.length) else par S (acc ++ [c]) r) = some (a, b) := h
      rw [if_neg (by rw [e]; exact Bool.false_ne_true)] at h
      have := par_app r _ a b h
      rw [← this, List.append_assoc]
      rfl
theorem free47 : ∀ {p : List Nat}, 47 ∉ p → SX.free [32, 47, 32] p = true
  | [], _ => rfl
  | d :: r, h => by
    show (!(TL.pre [32, 47, 32] (d :: (r ++ [32, 47, 32]))) && SX.free [32, 47, 32] r) = true
    rw [Bool.and_eq_true, Bool.not_eq_true']
    refine ⟨?_, free47 fun m => h (List.mem_cons_of_mem _ m)⟩
    unfold TL.pre
    cases r with
    | nil => simp
    | cons e r =>
      have : e ≠ 47 := fun z => h (by simp [z])
      simp [this]
theorem free_last {p : List Nat} (h : 47 ∉ p) : spl [32, 47, 32] 0 [] p = [p] := by
  refine spl_last fun i hi => ?_
  cases e : p.drop i with
  | nil => rfl
  | cons d r =>
    have m : ∀ x ∈ d :: r, x ∈ p := fun x hx => List.mem_of_mem_drop (e ▸ hx)
    unfold TL.pre
    cases r with
    | nil => simp
    | cons f r =>
      have : f ≠ 47 := fun z => h (m 47 (by simp [z]))
      simp [this]
theorem spl_slash : ∀ {parts : List (List Nat)}, parts ≠ [] → (∀ p ∈ parts, 47 ∉ p) → spl [32, 47, 32] 0 [] (joinL [32, 47, 32] parts) = parts
  | [], h, _ => absurd rfl h
  | [p], _, hp => free_last (hp p (by simp))
  | p :: q :: r, _, hp => by
    show spl [32, 47, 32] 0 [] (p ++ ([32, 47, 32] ++ joinL [32, 47, 32] (q :: r))) = p :: q :: r
    rw [SX.spl_free _ (by simp) (free47 (hp p (by simp))), spl_slash (by simp) fun z hz => hp z (List.mem_cons_of_mem _ hz)]
theorem word_int {w : List Nat} {n : Nat} (h : wordD w = .int (n : Int)) : w = [n + 48] ∧ n ≤ 9 := by
  match w, h with
  | [c], h =>
    have h : (if 48 ≤ c ∧ c ≤ 57 then PyData.int ((c - 48 : Nat) : Int) else .none) = .int (n : Int) := h
    split at h
    · rename_i k
      have e := PyData.int.inj h
      have : c = n + 48 := by omega
      exact ⟨by rw [this], by omega⟩
    · cases h
  | [], h => cases h
  | _ :: _ :: _, h => cases h
theorem int_word {n : Nat} (h : n ≤ 9) : wordD [n + 48] = .int (n : Int) := by
  show (if 48 ≤ n + 48 ∧ n + 48 ≤ 57 then PyData.int ((n + 48 - 48 : Nat) : Int) else .none) = .int (n : Int)
  rw [if_pos ⟨by omega, by omega⟩, Nat.add_sub_cancel]
def sgn (ns : List Nat) : List (List Nat) := ns.map fun n => [n + 48]
theorem words_of : ∀ {ws : List (List Nat)} {ns : List Nat}, ws.map wordD = nD ns → ws = sgn ns ∧ ∀ n ∈ ns, n ≤ 9
  | [], [], _ => ⟨rfl, fun _ m => absurd m (List.not_mem_nil)⟩
  | [], _ :: _, h => by cases h
  | _ :: _, [], h => by cases h
  | w :: ws, n :: ns, h => by
    obtain ⟨h1, h2⟩ := List.cons.inj h
    obtain ⟨rfl, l⟩ := word_int h1
    obtain ⟨rfl, l2⟩ := words_of h2
    exact ⟨rfl, fun m hm => by
      rcases List.mem_cons.mp hm with rfl | hm
      · exact l
      · exact l2 m hm⟩
theorem of_words : ∀ {ns : List Nat}, (∀ n ∈ ns, n ≤ 9) → (sgn ns).map wordD = nD ns
  | [], _ => rfl
  | n :: ns, h => by
    show wordD [n + 48] :: (sgn ns).map wordD = PyData.int (n : Int) :: nD ns
    rw [int_word (h n (by simp)), of_words fun m hm => h m (List.mem_cons_of_mem _ hm)]
theorem digs_of {s : Nat} {t : List Nat} {ns : List Nat} (h : digsD s t = nD ns) : t = joinL [s] (sgn ns) ∧ ns ≠ [] := by
  obtain ⟨e, _⟩ := words_of h
  refine ⟨by rw [← e, join_spl (by simp)], fun z => spl_ne [s] t [] ?_⟩
  rw [e, z]
  rfl
theorem sgn_ne {ns : List Nat} (h : ns ≠ []) : sgn ns ≠ [] := fun e => h (List.map_eq_nil_iff.mp e)
theorem sgn_free {ns : List Nat} {s : Nat} (l : ∀ n ∈ ns, n ≤ 9) (h : s < 48 ∨ 57 < s) : ∀ p ∈ sgn ns, s ∉ p := fun p m k => by
  obtain ⟨n, hn, rfl⟩ := List.mem_map.mp m
  have := l n hn
  rw [List.mem_singleton] at k
  omega
theorem of_digs {s : Nat} {ns : List Nat} (hn : ns ≠ []) (l : ∀ n ∈ ns, n ≤ 9) (h : s < 48 ∨ 57 < s) : digsD s (joinL [s] (sgn ns)) = nD ns := by
  unfold digsD
  rw [TL.spl_join (sgn_ne hn) (sgn_free l h), of_words l]
theorem mem_joinL {S : List Nat} {c : Nat} : ∀ {ps : List (List Nat)}, c ∈ joinL S ps → c ∈ S ∨ ∃ p ∈ ps, c ∈ p
  | [], h => by cases h
  | [p], h => .inr ⟨p, by simp, h⟩
  | p :: q :: r, h => by
    have h : c ∈ p ++ (S ++ joinL S (q :: r)) := h
    rcases List.mem_append.mp h with h | h
    · exact .inr ⟨p, by simp, h⟩
    · rcases List.mem_append.mp h with h | h
      · exact .inl h
      · rcases mem_joinL h with h | ⟨x, m, h⟩
        · exact .inl h
        · exact .inr ⟨x, List.mem_cons_of_mem _ m, h⟩
theorem row_free {ns : List Nat} {s : Nat} (l : ∀ n ∈ ns, n ≤ 9) (h : s < 48 ∨ 57 < s) (h2 : s ≠ 32) : s ∉ rowC ns := fun m => by
  rcases mem_joinL m with m | ⟨p, hp, m⟩
  · rw [List.mem_singleton] at m; exact h2 m
  · exact sgn_free l h p hp m
theorem move_free {x : Nat × Nat} {s : Nat} (l1 : x.1 ≤ 9) (l2 : x.2 ≤ 9) (h : s < 48 ∨ 57 < s) (h2 : s ≠ 62) : s ∉ moveC x := fun m => by
  unfold moveC at m
  simp only [List.mem_cons, List.not_mem_nil, or_false] at m
  omega
theorem parts_free {q : Cd} (ok : CdOk q) {s : Nat} (h : s < 48 ∨ 57 < s) (h2 : s ≠ 32) (h3 : s ≠ 62) (h4 : s ≠ 45) : ∀ p ∈ partsC q, s ∉ p := fun p m => by
  unfold partsC at m
  rcases List.mem_cons.mp m with rfl | m
  · unfold ordC
    split
    · rw [List.mem_singleton]; exact h4
    · exact row_free (fun n hn => Nat.le_trans (ok.ord n hn) (by decide)) h h2
  rcases List.mem_cons.mp m with rfl | m
  · exact row_free (fun n hn => Nat.le_trans (ok.c6 n hn) (by decide)) h h2
  rcases List.mem_cons.mp m with rfl | m
  · exact row_free (fun n hn => Nat.le_trans (ok.o6 n hn) (by decide)) h h2
  · obtain ⟨x, hx, rfl⟩ := List.mem_map.mp m
    have := ok.mv x hx
    exact move_free (by omega) (by omega) h h3
theorem line_par {q : Cd} (ok : CdOk q) : par [58, 32] [] (lineC q) = some (codes q.ds, joinL [32, 47, 32] (partsC q)) := by
  refine SX.par_head _ fun m => ?_
  obtain ⟨d, md, e⟩ := List.mem_map.mp m
  have := ok.num.dig d md
  omega
theorem line_spl {q : Cd} (ok : CdOk q) : spl [32, 47, 32] 0 [] (joinL [32, 47, 32] (partsC q)) = partsC q :=
  spl_slash (by unfold partsC; simp) (parts_free ok (by decide) (by decide) (by decide) (by decide))
end
end K54

namespace K54
open PySem L2 Wm TL Dv De
section
variable {P : Program} {w : World} {K : PySem.W.Frag} {mg : Str → Option Value} {base : Heap}
theorem nD_inj : ∀ {a b : List Nat}, nD a = nD b → a = b
  | [], [], _ => rfl
  | [], _ :: _, h => by cases h
  | _ :: _, [], h => by cases h
  | x :: a, y :: b, h => by
    obtain ⟨h1, h2⟩ := List.cons.inj h
    have := PyData.int.inj h1
    rw [nD_inj h2, show x = y by omega]
theorem ord_of {p : List Nat} {ns : List Nat} (h : (if p = [45] then [] else digsD 32 p) = nD ns) : p = ordC ns := by
  unfold ordC
  by_cases c : p = [45]
  · rw [if_pos c] at h
    rw [if_pos (List.map_eq_nil_iff.mp h.symm), c]
  · rw [if_neg c] at h
    obtain ⟨e, n⟩ := digs_of h
    rw [if_neg n, e]
    rfl
theorem of_ord {ns : List Nat} (l : ∀ n ∈ ns, n ≤ 9) : (if ordC ns = [45] then [] else digsD 32 (ordC ns)) = nD ns := by
  unfold ordC
  by_cases c : ns = []
  · subst c
    rfl
  · rw [if_neg c, if_neg fun e => row_free (s := 45) l (by decide) (by decide) (by rw [e]; simp)]
    exact of_digs c l (by decide)
theorem three_ne {ns : List Nat} (h : ns.length = 3) : ns ≠ [] := fun e => by rw [e] at h; cases h
theorem mv_digs {x : Nat × Nat} (l1 : x.1 ≤ 9) (l2 : x.2 ≤ 9) : digsD 62 (moveC x) = nD [x.1, x.2] :=
  of_digs (ns := [x.1, x.2]) (by simp) (fun n m => by
    rcases List.mem_cons.mp m with rfl | m
    · exact l1
    · rw [List.mem_singleton] at m
      rw [m]
      exact l2) (by decide)
theorem mvs_of : ∀ {ps : List (List Nat)} {ms : List (Nat × Nat)}, (ps.map (digsD 62)).map PyData.tuple = ms.map mD → ps = ms.map moveC
  | [], [], _ => rfl
  | [], _ :: _, h => by cases h
  | _ :: _, [], h => by cases h
  | p :: ps, x :: ms, h => by
    obtain ⟨h1, h2⟩ := List.cons.inj h
    have e : digsD 62 p = nD [x.1, x.2] := PyData.tuple.inj h1
    rw [List.map_cons, mvs_of h2, (digs_of e).1]
    rfl
theorem of_mvs : ∀ {ms : List (Nat × Nat)}, (∀ x ∈ ms, x.1 ≤ 9 ∧ x.2 ≤ 9) → ((ms.map moveC).map (digsD 62)).map PyData.tuple = ms.map mD
  | [], _ => rfl
  | x :: ms, h => by
    rw [List.map_cons, List.map_cons, List.map_cons, List.map_cons, of_mvs fun y m => h y (List.mem_cons_of_mem _ m), mv_digs (h x (by simp)).1 (h x (by simp)).2]
    rfl
/-- the data that a text's parts tell -/
def oD (p : List Nat) : PyData := .list (if p = [45] then [] else digsD 32 p)
def cD (p : List Nat) : PyData := .list (digsD 32 p)
def sD (ps : List (List Nat)) : PyData := .list (ps.map fun p => PyData.list (digsD 62 p))
theorem tup_itm (ps : List (List Nat)) : (itm (sD ps)).map (fun x => PyData.tuple (itm x)) = (ps.map (digsD 62)).map PyData.tuple := by
  show (ps.map fun p => PyData.list (digsD 62 p)).map (fun x => PyData.tuple (itm x)) = _
  rw [List.map_map, List.map_map]
  rfl
theorem read_line {t a b p0 p1 p2 : List Nat} {ps : List (List Nat)} {q : Cd} (h1 : par [58, 32] [] t = some (a, b)) (h2 : spl [32, 47, 32] 0 [] b = p0 :: p1 :: p2 :: ps) (f : Fit (.str (SX.S a)) (oD p0) (cD p1) (cD p2) (sD ps) q) : t = lineC q := by
  obtain ⟨fn, _, fo, _, fc, _, fw, _, fm, _⟩ := f
  have e1 := par_app t [] a b h1
  rw [List.nil_append] at e1
  have ea : a = codes q.ds := SX.S_inj (PyData.str.inj fn)
  have eb : joinL [32, 47, 32] (p0 :: p1 :: p2 :: ps) = b := by rw [← h2]; exact join_spl (by simp)
  have e0 : p0 = ordC q.order := ord_of fo
  have c1 : p1 = rowC q.counts := (digs_of (s := 32) fc).1
  have c2 : p2 = rowC q.owed := (digs_of (s := 32) fw).1
  rw [tup_itm] at fm
  rw [e1, ea, ← eb, e0, c1, c2, mvs_of fm]
  rfl
theorem Fit.line {q : Cd} (ok : CdOk q) : Fit (.str (SX.S (codes q.ds))) (oD (ordC q.order)) (cD (rowC q.counts)) (cD (rowC q.owed)) (sD (q.moves.map moveC)) q := by
  refine ⟨rfl, rfl, of_ord fun n m => Nat.le_trans (ok.ord n m) (by decide), rfl, of_digs (three_ne ok.c3) (fun n m => Nat.le_trans (ok.c6 n m) (by decide)) (by decide), rfl, of_digs (three_ne ok.o3) (fun n m => Nat.le_trans (ok.o6 n m) (by decide)) (by decide), rfl, ?_, fun x m => ?_⟩
  · rw [tup_itm, of_mvs fun x m => ?_]
    have := ok.mv x m
    omega
  · obtain ⟨p, _, rfl⟩ := List.mem_map.mp (show x ∈ (q.moves.map moveC).map (fun p => PyData.list (digsD 62 p)) from m)
    rfl
theorem nat_wb {n k : Nat} (h : n ≤ k) : wbD (.int (n : Int)) 0 (k : Int) = true := by
  show (decide ((0 : Int) ≤ (n : Int)) && decide ((n : Int) ≤ (k : Int))) = true
  rw [decide_eq_true (by omega), decide_eq_true (by omega)]
  rfl
theorem all_nats {k : Nat} {ns : List Nat} (h : ∀ n ∈ ns, n ≤ k) : ((nD ns).all fun x => wbD x 0 (k : Int)) = true := by
  rw [List.all_eq_true]
  intro x m
  obtain ⟨n, hn, rfl⟩ := List.mem_map.mp m
  exact nat_wb (h n hn)
theorem row_of {d : PyData} {ns : List Nat} {lo hi : Nat} (s : seqB d = true) (e : itm d = nD ns) (h1 : lo ≤ ns.length) (h2 : ns.length ≤ hi) : rowB d lo hi = true := by
  rw [row_en s, e, nD_len, decide_eq_true h1, decide_eq_true h2]
  rfl
theorem of_counts {d : PyData} {ns : List Nat} (s : seqB d = true) (e : itm d = nD ns) (l : ns.length = 3) (h : ∀ n ∈ ns, n ≤ 6) : countsB d = true := by
  unfold countsB
  rw [row_of s e (by omega) (by omega), e]
  exact all_nats (k := 6) h
theorem of_move {d : PyData} {x : Nat × Nat} (s : seqB d = true) (e : PyData.tuple (itm d) = mD x) (l1 : x.1 ≤ 5) (l2 : x.2 ≤ 8) : moveB d = true := by
  have e : itm d = nD [x.1, x.2] := PyData.tuple.inj e
  unfold moveB fstD sndD
  rw [row_of s e (by simp) (by simp), e]
  show (true && (wbD (.int (x.1 : Nat)) 0 5 && wbD (.int (x.2 : Nat)) 0 8)) = true
  rw [show (5 : Int) = ((5 : Nat) : Int) from rfl, show (8 : Int) = ((8 : Nat) : Int) from rfl, nat_wb l1, nat_wb l2]
  rfl
theorem of_moves : ∀ {ds : List PyData} {ms : List (Nat × Nat)}, (∀ x ∈ ds, seqB x = true) → ds.map (fun x => PyData.tuple (itm x)) = ms.map mD → (∀ x ∈ ms, x.1 ≤ 5 ∧ x.2 ≤ 8) → ds.all moveB = true
  | [], _, _, _, _ => rfl
  | d :: ds, [], _, h, _ => by cases h
  | d :: ds, x :: ms, s, h, l => by
    obtain ⟨h1, h2⟩ := List.cons.inj h
    rw [List.all_cons, of_move (s d (by simp)) h1 (l x (by simp)).1 (l x (by simp)).2, of_moves (fun y m => s y (List.mem_cons_of_mem _ m)) h2 fun y m => l y (List.mem_cons_of_mem _ m)]
    rfl
theorem nat_nodup : ∀ {ns : List Nat}, ns.Nodup → (ns.map fun (n : Nat) => (n : Int)).Nodup
  | [], _ => List.nodup_nil
  | n :: ns, h => by
    obtain ⟨h1, h2⟩ := List.nodup_cons.mp h
    rw [List.map_cons]
    refine List.nodup_cons.mpr ⟨fun m => ?_, nat_nodup h2⟩
    obtain ⟨k, hk, e⟩ := List.mem_map.mp m
    exact h1 (by rw [show n = k by omega]; exact hk)
theorem Fit.fault {n o c w m : PyData} {q : Cd} (f : Fit n o c w m q) (ok : CdOk q) : faultW n o c w m = none := by
  obtain ⟨fn, fos, fo, fcs, fc, fws, fw, fms, fm, fmq⟩ := f
  have a1 : numB n = true := by
    unfold numB
    exact @decide_eq_true _ (Classical.propDecidable _) ⟨q.ds, ok.num, fn⟩
  have a2 : orderB o = true := by
    unfold orderB
    rw [fos, fo, nD_int, decide_eq_true (nat_nodup ok.nd)]
    show (true && ((nD q.order).all crewB && true)) = true
    rw [show (nD q.order).all crewB = true from all_nats (k := 5) ok.ord]
    rfl
  have a3 : countsB c = true := of_counts fcs fc ok.c3 ok.c6
  have a4 : countsB w = true := of_counts fws fw ok.o3 ok.o6
  have a5 : movesB m = true := by
    have e := congrArg List.length fm
    rw [List.length_map, List.length_map] at e
    have := ok.m6
    unfold movesB
    rw [fms, of_moves fmq fm ok.mv, decide_eq_true (by omega)]
    rfl
  unfold faultW
  rw [if_pos a1, if_pos a2, if_pos a3, if_pos a4, if_pos a5]
theorem Fit.uniq {n o c w m : PyData} {q r : Cd} (f : Fit n o c w m q) (g : Fit n o c w m r) : q = r := by
  have e1 : q.ds = r.ds := numS_inj (PyData.str.inj (f.hn.symm.trans g.hn))
  have e2 := nD_inj (f.ho.symm.trans g.ho)
  have e3 := nD_inj (f.hc.symm.trans g.hc)
  have e4 := nD_inj (f.hw.symm.trans g.hw)
  have e5 : q.moves.map mD = r.moves.map mD := f.hm.symm.trans g.hm
  have e6 : q.moves = r.moves := (List.map_inj_right (fun x y h => by
    obtain ⟨a, b⟩ := x
    obtain ⟨c, d⟩ := y
    have e := PyData.tuple.inj h
    simp only [List.cons.injEq, PyData.int.injEq, and_true] at e
    rw [show a = c by omega, show b = d by omega])).mp e5
  cases q
  cases r
  cases e1
  cases e2
  cases e3
  cases e4
  cases e6
  rfl
theorem line_inj {q r : Cd} (ok : CdOk q) (ok2 : CdOk r) (h : lineC q = lineC r) : q = r := by
  have e1 := line_par ok
  rw [h, line_par ok2] at e1
  obtain ⟨a, b⟩ := Prod.mk.inj (Option.some.inj e1)
  have e2 : partsC r = partsC q := by rw [← line_spl ok, ← line_spl ok2, b]
  have f := Fit.line ok
  have g := Fit.line ok2
  unfold partsC at e2
  obtain ⟨c1, e2⟩ := List.cons.inj e2
  obtain ⟨c2, e2⟩ := List.cons.inj e2
  obtain ⟨c3, c4⟩ := List.cons.inj e2
  rw [a, c1, c2, c3, c4] at g
  exact f.uniq g
end
end K54

namespace K54
open PySem L2 Wm TL Dv De
section
variable {P : Program} {w : World} {K : PySem.W.Frag} {mg : Str → Option Value} {base : Heap}
theorem one_sign {t : Str} (h : t.length = 1) : ∃ c, t = ⟨#[c]⟩ := by
  have h : t.cps.size = 1 := h
  refine ⟨t.cps[0], ?_⟩
  obtain ⟨a⟩ := t
  congr 1
  exact Array.ext (by simpa using h) fun i h1 h2 => by
    have : i = 0 := by simp at h2; omega
    subst this
    rfl
theorem dig10 (c : Nat) : c ∈ ("0123456789" : Str).cps.toList ↔ ∃ n : Nat, n ≤ 9 ∧ c = n + 48 := by
  rw [show ("0123456789" : Str).cps.toList = [48, 49, 50, 51, 52, 53, 54, 55, 56, 57] by decide +kernel]
  simp only [List.mem_cons, List.not_mem_nil, or_false]
  constructor
  · intro h
    exact ⟨c - 48, by omega, by omega⟩
  · rintro ⟨n, h, rfl⟩
    omega
theorem dig_S {n : Nat} (h : n ≤ 9) : ((toString (n : Int) : String) : Str) = SX.S [n + 48] := by
  have c : n = 0 ∨ n = 1 ∨ n = 2 ∨ n = 3 ∨ n = 4 ∨ n = 5 ∨ n = 6 ∨ n = 7 ∨ n = 8 ∨ n = 9 := by omega
  rcases c with e | e | e | e | e | e | e | e | e | e <;> subst e <;> decide +kernel
theorem dig_txt {n : Nat} (h : n ≤ 9) : PySem.intText? (SX.S [n + 48]) = some (n : Int) := by
  have c : n = 0 ∨ n = 1 ∨ n = 2 ∨ n = 3 ∨ n = 4 ∨ n = 5 ∨ n = 6 ∨ n = 7 ∨ n = 8 ∨ n = 9 := by omega
  rcases c with e | e | e | e | e | e | e | e | e | e <;> subst e <;> decide +kernel
theorem small_log {n : Nat} (h : n ≤ 9) : ((n : Nat) : Int).natAbs.log2 < 1920 := by
  have c : n = 0 ∨ n = 1 ∨ n = 2 ∨ n = 3 ∨ n = 4 ∨ n = 5 ∨ n = 6 ∨ n = 7 ∨ n = 8 ∨ n = 9 := by omega
  rcases c with e | e | e | e | e | e | e | e | e | e <;> subst e <;> decide
theorem strs_at {α : Type} {f : α → Str} : ∀ {ys : List V} {ns : List α}, ys.length = ns.length → (∀ (i : Nat) y, ys[i]? = some y → ∃ n, ns[i]? = some n ∧ y = .str (f n)) → ys = (ns.map f).map V.str
  | [], [], _, _ => rfl
  | y :: ys, n :: ns, l, h => by
    obtain ⟨d2, e, e2⟩ := h 0 y rfl
    cases e
    rw [List.map_cons, List.map_cons, ← strs_at (f := f) (by simpa using l) fun i z hz => h (i + 1) z hz, e2]
theorem ones_sum : ∀ ns : List Nat, ((ns.map fun n => SX.S [n + 48]).map (·.length)).sum = ns.length
  | [] => rfl
  | n :: ns => by
    rw [List.map_cons, List.map_cons, List.sum_cons, ones_sum ns, SX.S_len]
    simp only [List.length_cons, List.length_nil]
    omega
theorem ok_is_digit (T : Txt K mg) : FnOk P w K mg base CX0 1 T.a_is_digit T.d_is_digit ["word"] (sp_is_digit K) := by
  refine T.F_is_digit.ok sc_is_digit (fun vs H Q E h => ?_) (fun cdv A outer s H vs Q E hr h => ?_)
  · obtain ⟨t, rfl, _⟩ := h
    rfl
  · obtain ⟨t, rfl, lt, k⟩ := h
    refine ⟨_, (pss_one (ps_ret (pe_and (pe_cmpR op_eq (pe_callB call_len_str (by rfl) T.z_len PySem.boot_len (pa_cons (pv 0) pa_nil)) pe_int (nomark _)) (pe_one (pe_cmpR op_in_sign (pv 0) pe_str rfl))))), ?_⟩
    refine ⟨_, rfl, _, rfl, small_len (by omega), rfl, _, rfl, ?_⟩
    by_cases c : t.length = 1
    · obtain ⟨d, rfl⟩ := one_sign c
      rw [c]
      refine iteT ⟨_, rfl, d, _, rfl, rfl, k _ _ (Same.refl _) ?_⟩
      rw [decide_eq_true_iff, dig10]
      constructor
      · rintro ⟨n, h1, h2⟩
        exact ⟨n, h1, by rw [h2]⟩
      · rintro ⟨n, h1, h2⟩
        exact ⟨n, h1, (List.cons.inj h2).1⟩
    · rw [decide_eq_false fun e => c (by have := V.int.inj e; omega)]
      refine iteF (k _ _ (Same.refl _) ⟨fun e => (by cases e), ?_⟩)
      rintro ⟨n, _, h2⟩
      refine absurd ?_ c
      rw [len_tl, h2]
      rfl
theorem ok_joined (T : Txt K mg) : FnOk P w K mg base CX0 1 T.a_joined T.d_joined ["wholes"] (sp_joined K) := by
  refine T.F_joined.ok sc_joined (fun vs H Q E h => ?_) (fun cdv A outer s H vs Q E hr h => ?_)
  · obtain ⟨v, ns, rfl, _⟩ := h
    rfl
  · obtain ⟨v, ns, rfl, hd, l9, ll, k⟩ := h
    obtain ⟨p, xs, rfl, hS, hX⟩ := hd.inv
    have lx := hX.len
    rw [nD_len] at lx
    refine ⟨_, (pss_one (ps_ret (pe_join pe_str (pe_lc (own := [("whole", 1)]) (g := gName 1) (tt := tYes) rfl sc_joined.nd (Kd.pi_seq (pv 0)) (blkOk_by (own := [("whole", 1)]) (N := nm_joined) (sc := (defScope s_joined)) (by decide +kernel)) (fun _ _ _ _ _ => pg_name (i := 1) sc_joined.nd rfl (Or.inl rfl)) (fun _ _ _ _ _ => pts_nil) (fun _ _ _ _ _ => (pe_callTy call_str_int (by rfl) T.z_str (by decide +kernel) (pa_cons (pv 1) pa_nil))))))), ?_⟩
    refine ⟨⟨_, rfl⟩, _, rfl, p, xs, true, rfl, hS, fun J GG w hG D hD => ?_⟩
    refine Lm.lc_map (K := K) w (fun i y _ => ∃ n, ns[i]? = some n ∧ y = .str (SX.S [n + 48])) (fun _ _ _ _ h _ => h) hD (by omega) (fun H' s => hG _ (Hf.keepT s hS)) (fun i x H' hi hx sm Q2 Z q => ?_) (fun H2 ys s2 hy ly hR => ?_)
    · obtain ⟨z, hz, dz⟩ := hX.at hx
      obtain ⟨n, hn, rfl⟩ : ∃ n, ns[i]? = some n ∧ z = PyData.int (n : Int) := by
        unfold nD at hz
        rw [List.getElem?_map] at hz
        cases e : ns[i]? with
        | none => rw [e] at hz; cases hz
        | some n => rw [e] at hz; cases hz; exact ⟨n, rfl, rfl⟩
      have n9 := l9 n (List.mem_of_getElem? hn)
      cases dz
      refine ⟨rfl, yesT ⟨_, rfl, _, rfl, small_log n9, ?_⟩⟩
      rw [dig_S n9]
      exact q _ _ (Same.refl _) ⟨n, hn, rfl⟩
    · rw [strs_at (f := fun n => SX.S [n + 48]) (by omega) hR] at hy
      refine ⟨_, D, ns.map fun n => SX.S [n + 48], rfl, rfl, .inl (SqL.of hy), ?_, ?_⟩
      · rw [ones_sum, List.length_map]
        show ns.length + ns.length * 1 ≤ _
        omega
      · have e : Txt.join " " (ns.map fun n => SX.S [n + 48]) = SX.S (rowC ns) := by
          have e2 := SX.join_S [32] (sgn ns)
          rw [show SX.S [32] = (" " : Str) by decide +kernel] at e2
          rw [← show SX.S (joinL [32] (sgn ns)) = SX.S (rowC ns) from rfl, ← e2]
          unfold sgn
          rw [List.map_map]
          rfl
        rw [e]
        exact k _ s2
end
end K54

namespace K54
open PySem L2 Wm TL Dv De
section
variable {P : Program} {w : World} {K : PySem.W.Frag} {mg : Str → Option Value} {base : Heap}
theorem word_cases (w : List Nat) : (∃ n : Nat, n ≤ 9 ∧ wordD w = .int (n : Int) ∧ w = [n + 48]) ∨ (wordD w = .none ∧ ∀ n, n ≤ 9 → w ≠ [n + 48]) := by
  by_cases h : ∃ n : Nat, n ≤ 9 ∧ w = [n + 48]
  · obtain ⟨n, l, rfl⟩ := h
    exact .inl ⟨n, l, int_word l, rfl⟩
  · refine .inr ⟨?_, fun n l e => h ⟨n, l, e⟩⟩
    match w, h with
    | [], _ => rfl
    | [c], h =>
      show (if 48 ≤ c ∧ c ≤ 57 then PyData.int ((c - 48 : Nat) : Int) else .none) = .none
      rw [if_neg fun k => h ⟨c - 48, by omega, by rw [show c - 48 + 48 = c by omega]⟩]
    | _ :: _ :: _, _ => rfl
theorem ens_words {N : Addr → Prop} {H : Hp} : ∀ ws : List (List Nat), Ens K N H ((ws.map wordD).map vD) (ws.map wordD)
  | [] => .nil
  | w :: ws => by
    rw [List.map_cons, List.map_cons]
    refine .cons ?_ (ens_words ws)
    rcases word_cases w with ⟨n, _, e, _⟩ | ⟨e, _⟩
    · rw [e]; exact .int _
    · rw [e]; exact .non
theorem mem_len {S p : List Nat} : ∀ {ps : List (List Nat)}, p ∈ ps → p.length ≤ (joinL S ps).length
  | [], h => absurd h (List.not_mem_nil)
  | [q], h => by rw [List.mem_singleton.mp h]; exact Nat.le_refl _
  | q :: r :: s, h => by
    show p.length ≤ (q ++ (S ++ joinL S (r :: s))).length
    rw [List.length_append, List.length_append]
    rcases List.mem_cons.mp h with rfl | h
    · omega
    · have := mem_len (S := S) h
      omega
theorem num_len {S p : List Nat} : ∀ {ps : List (List Nat)}, S ≠ [] → ps.length ≤ (joinL S ps).length + 1
  | [], _ => Nat.zero_le _
  | [q], _ => by simp
  | q :: r :: s, h => by
    have ih := num_len (S := S) (p := p) (ps := r :: s) h
    have l : 1 ≤ S.length := by cases S with | nil => exact absurd rfl h | cons a b => simp
    show _ ≤ (q ++ (S ++ joinL S (r :: s))).length + 1
    rw [List.length_append, List.length_append, List.length_cons]
    omega
theorem split_tl {t b : Str} {S : List Nat} (hb : tl b = S) (hs : S ≠ []) (h : S.all (· < 256) = true) : (Txt.split t b).map tl = spl S 0 [] (tl t) := by
  have e := split_spl t b (by rw [hb]; exact hs) (kind_ok (by
    rw [← Array.all_toList]
    show (tl b).all _ = true
    rw [hb]
    exact h))
  rw [hb] at e
  exact e
theorem ok_digits_in (T : Txt K mg) : FnOk P w K mg base CX0 2 T.a_digits_in T.d_digits_in ["text", "separator"] (sp_digits_in K) := by
  refine T.F_digits_in.ok sc_digits_in (fun vs H Q E h => ?_) (fun cdv A outer s H vs Q E hr h => ?_)
  · obtain ⟨t, b, s, rfl, _⟩ := h
    rfl
  · obtain ⟨t, b, s, rfl, hb, hs, lt, k⟩ := h
    have es := split_tl (t := t) hb (by simp) (by simpa using hs)
    have lw : (Txt.split t b).length ≤ t.length + 1 := by
      have e := num_len (S := [s]) (p := []) (ps := (Txt.split t b).map tl) (by simp)
      rw [List.length_map, es, join_spl (by simp), ← len_tl] at e
      exact e
    have wl : ∀ w0 ∈ Txt.split t b, w0.length ≤ t.length := fun w0 m => by
      have e := mem_len (S := [s]) (List.mem_map_of_mem (f := tl) m)
      rw [es, join_spl (by simp), ← len_tl, ← len_tl] at e
      exact e
    have lb : b.length = 1 := by rw [len_tl, hb]; rfl
    refine ⟨_, (pss_one (ps_ret (pe_lc (own := [("word", 2)]) (g := gName 2) (tt := tYes) rfl sc_digits_in.nd (Kd.pi_seq (pe_split (pv 0) (pv 1))) (blkOk_by (own := [("word", 2)]) (N := nm_digits_in) (sc := (defScope s_digits_in)) (by decide +kernel)) (fun _ _ _ _ _ => pg_name (i := 2) sc_digits_in.nd rfl (Or.inl rfl)) (fun _ _ _ _ _ => pts_nil) (fun _ _ _ _ _ => (pe_ifExp (pt_val (pe_call (ok_is_digit T) (hr.mono (by decide)) (by rfl) T.g_is_digit T.F_is_digit.kp T.b_is_digit .nil pass0 (pa_cons (pv 2) pa_nil))) (pe_callTy call_int_str (by rfl) T.z_int (by decide +kernel) (pa_cons (pv 2) pa_nil)) pe_non))))), ?_⟩
    refine ⟨_, rfl, ⟨_, rfl⟩, _, rfl, t, b, rfl, rfl, by rw [lb]; rfl, small_len (by omega), fun q hq => ?_⟩
    have s1 := same_new (o := .lst ((Txt.split t b).map V.str)) hq
    have hS : SqL K (upd H q (.lst ((Txt.split t b).map V.str))) q ((Txt.split t b).map V.str) := SqL.of upd_same
    generalize upd H q (.lst ((Txt.split t b).map V.str)) = H1 at *
    refine ⟨q, _, false, rfl, hS, fun J GG w hG D hD => ?_⟩
    refine Lm.lc_map (K := K) w (fun i y _ => ∃ z, (digsD s (tl t))[i]? = some z ∧ y = vD z) (fun _ _ _ _ h _ => h) hD (by rw [List.length_map]; omega) (fun H' s => hG _ (Hf.keepL s hS)) (fun i x H' hi hx sm Q2 Z q2 => ?_) (fun H2 ys s2 hy ly hR => ?_)
    · rw [List.getElem?_map] at hx
      cases ew : (Txt.split t b)[i]? with
      | none => rw [ew] at hx; cases hx
      | some w0 =>
      rw [ew] at hx
      cases hx
      have mw := List.mem_of_getElem? ew
      have l0 := wl w0 mw
      have ed : (digsD s (tl t))[i]? = some (wordD (tl w0)) := by
        unfold digsD
        rw [← es, List.getElem?_map, List.getElem?_map, ew]
        rfl
      refine ⟨rfl, yesT ⟨_, rfl, w0, rfl, by omega, fun H3 bb s3 hbb => ⟨bb, rfl, ?_⟩⟩⟩
      rcases word_cases (tl w0) with ⟨n, n9, e1, e2⟩ | ⟨e1, e2⟩
      · refine iteY (hbb.mpr ⟨n, n9, e2⟩) ?_
        have e3 : w0 = SX.S [n + 48] := ext_tl e2
        refine ⟨_, rfl, w0, (n : Int), rfl, by rw [e3]; exact dig_txt n9, by rw [len_tl, e2]; exact (by decide : (1 : Nat) ≤ 640), q2 _ _ s3 ⟨_, ed, ?_⟩⟩
        rw [e1]
        rfl
      · have e3 : bb = false := by
          cases bb with
          | false => rfl
          | true =>
            obtain ⟨n, n9, e⟩ := hbb.mp rfl
            exact absurd e (e2 n n9)
        refine iteN e3 (q2 _ _ s3 ⟨_, ed, ?_⟩)
        rw [e1]
        rfl
    · have e1 : ys = (digsD s (tl t)).map vD := by
        refine List.ext_getElem? fun i => ?_
        cases ey : ys[i]? with
        | none =>
          have := List.getElem?_eq_none_iff.mp ey
          have l2 : (digsD s (tl t)).length = (Txt.split t b).length := by unfold digsD; rw [← es, List.length_map, List.length_map]
          rw [List.length_map] at ly
          rw [List.getElem?_eq_none (by rw [List.length_map]; omega)]
        | some y =>
          obtain ⟨z, a, b2⟩ := hR i y ey
          rw [List.getElem?_map, a, b2]
          rfl
      rw [e1] at hy
      refine k _ D (s1.trans s2) ?_ hy
      cases e : H D with
      | none => rfl
      | some o => rw [s1 _ _ e] at hD; cases hD
theorem nodup_le : ∀ (n : Nat) {l : List Nat}, l.Nodup → (∀ k ∈ l, k < n) → l.length ≤ n
  | 0, [], _, _ => Nat.le_refl _
  | 0, a :: l, _, h => absurd (h a (by simp)) (by omega)
  | n + 1, l, nd, h => by
    by_cases c : n ∈ l
    · have f := nodup_le n (l := l.erase n) (nd.sublist List.erase_sublist) fun k m => by
        obtain ⟨m1, m2⟩ := nd.mem_erase_iff.mp m
        have := h k m2
        omega
      rw [List.length_erase_of_mem c] at f
      omega
    · have f := nodup_le n nd fun k m => by
        have := h k m
        have : k ≠ n := fun e => c (e ▸ m)
        omega
      omega
theorem ord_len {q : Cd} (ok : CdOk q) : q.order.length ≤ 6 := nodup_le 6 ok.nd fun k m => by
  have := ok.ord k m
  omega
theorem joinL_len {S : List Nat} : ∀ {ps : List (List Nat)}, (joinL S ps).length ≤ (ps.map List.length).sum + ps.length * S.length
  | [] => by simp [joinL]
  | [p] => by simp [joinL]
  | p :: q :: r => by
    have ih := joinL_len (S := S) (ps := q :: r)
    have e : (joinL S (p :: q :: r)).length = p.length + (S.length + (joinL S (q :: r)).length) := by
      show (p ++ (S ++ joinL S (q :: r))).length = _
      rw [List.length_append, List.length_append]
    rw [e, List.map_cons, List.sum_cons, List.length_cons (a := p), Nat.succ_mul]
    omega
theorem sgn_sum : ∀ ns : List Nat, ((sgn ns).map List.length).sum = ns.length
  | [] => rfl
  | n :: ns => by
    show [n + 48].length + ((sgn ns).map List.length).sum = _
    rw [sgn_sum ns]
    simp only [List.length_cons, List.length_nil]
    omega
theorem row_len (ns : List Nat) : (rowC ns).length ≤ 2 * ns.length := by
  have e := joinL_len (S := [32]) (ps := sgn ns)
  rw [sgn_sum] at e
  have e2 : (sgn ns).length = ns.length := List.length_map _
  rw [e2] at e
  have e3 : ([32] : List Nat).length = 1 := rfl
  rw [e3] at e
  have e4 : (rowC ns).length = (joinL [32] (sgn ns)).length := rfl
  omega
theorem mvs_sum : ∀ ms : List (Nat × Nat), ((ms.map moveC).map List.length).sum = 3 * ms.length
  | [] => rfl
  | m :: ms => by
    show 3 + ((ms.map moveC).map List.length).sum = _
    rw [mvs_sum ms, List.length_cons]
    omega
theorem ord_clen {ns : List Nat} (h : ns.length ≤ 6) : (ordC ns).length ≤ 12 := by
  unfold ordC
  split
  · decide
  · have := row_len ns
    omega
theorem parts_sum {q : Cd} (ok : CdOk q) : ((partsC q).map List.length).sum ≤ 42 ∧ (partsC q).length ≤ 9 := by
  have := ord_clen (ord_len ok)
  have := row_len q.counts
  have := row_len q.owed
  have := ok.c3
  have := ok.o3
  have := ok.m6
  have e : ((partsC q).map List.length).sum = (ordC q.order).length + ((rowC q.counts).length + ((rowC q.owed).length + 3 * q.moves.length)) := by
    rw [← mvs_sum]
    rfl
  have e2 : (partsC q).length = q.moves.length + 1 + 1 + 1 := by
    unfold partsC
    rw [List.length_cons, List.length_cons, List.length_cons, List.length_map]
  omega
theorem num4 {ds : List Nat} (N : Num ds) : ds.length ≤ 4 := N.len
theorem codes_len (ds : List Nat) : (codes ds).length = ds.length := List.length_map _
theorem line_len {q : Cd} (ok : CdOk q) : (lineC q).length ≤ 100 := by
  obtain ⟨a, b⟩ := parts_sum ok
  have e := joinL_len (S := [32, 47, 32]) (ps := partsC q)
  have e3 : ([32, 47, 32] : List Nat).length = 3 := rfl
  rw [e3] at e
  have e4 : (lineC q).length = (codes q.ds).length + (2 + (joinL [32, 47, 32] (partsC q)).length) := by
    unfold lineC
    rw [List.length_append, List.length_append]
    rfl
  have := num4 ok.num
  rw [codes_len] at e4
  omega
theorem js_len {a b : List Nat} (h : a.length + b.length ≤ 1000) : (SX.S a ++ SX.S b).length ≤ sizeLine := by
  rw [SX.S_cat, SX.S_len, List.length_append]
  exact small_len (by omega)
theorem ifExp_k {c : Bool} {ta tb : TE} {σ : L2.St} {H : Hp} {Kt : V → Hp → Prop} {G : V → Hp → Prop} (a : c = true → ∀ Q : V → Hp → Prop, (∀ x H1, G x H1 → Q x H1) → ta σ H Q) (b : c = false → ∀ Q : V → Hp → Prop, (∀ x H1, G x H1 → Q x H1) → tb σ H Q) (k : ∀ x H1, G x H1 → Kt x H1) : if c = true then ta σ H Kt else tb σ H Kt := by
  cases c with
  | true => exact iteT (a rfl _ k)
  | false => exact iteF (b rfl _ k)
theorem ok_card_text (T : Txt K mg) : FnOk P w K mg base CX0 2 T.a_card_text T.d_card_text ["card"] (sp_card_text K T.CC) := by
  refine T.F_card_text.ok sc_card_text (fun vs H Q E h => ?_) (fun cdv A outer s H vs Q E hr h => ?_)
  · obtain ⟨p, q, rfl, _⟩ := h
    rfl
  · obtain ⟨p, q, rfl, hC, ok, k⟩ := h
    obtain ⟨dx, fs, o1, o2, o3, o4, hp, l1, l2, D1, l3, D2, l4, D3, l5, D4, no⟩ := hC
    obtain ⟨p1, x1, rfl, hO, hX1⟩ := D1.inv
    have lx := hX1.len
    rw [nD_len] at lx
    refine ⟨_, (pss_cons (ps_set (i := 1) sc_card_text.nd rfl (Or.inl rfl) (pe_ifExp (pt_cmpR op_gt (pe_callB call_len_seq (by rfl) T.z_len PySem.boot_len (pa_cons (pe_fld (pv 0) rfl) pa_nil)) pe_int (nomark _)) (pe_call (ok_joined T) (hr.mono (by decide)) (by rfl) T.g_joined T.F_joined.kp T.b_joined .nil pass0 (pa_cons (pe_fld (pv 0) rfl) pa_nil)) (pe_glob (v := V.str "-") rfl T.c_EMPTY ⟨_, rfl⟩)))
      (pss_cons (ps_set (i := 2) sc_card_text.nd rfl (Or.inl rfl) (pe_lst (pa_cons (pv 1) (pa_cons (pe_call (ok_joined T) (hr.mono (by decide)) (by rfl) T.g_joined T.F_joined.kp T.b_joined .nil pass0 (pa_cons (pe_fld (pv 0) rfl) pa_nil)) (pa_cons (pe_call (ok_joined T) (hr.mono (by decide)) (by rfl) T.g_joined T.F_joined.kp T.b_joined .nil pass0 (pa_cons (pe_fld (pv 0) rfl) pa_nil)) pa_nil)))))
      (pss_cons (ps_expr (pe_bm PySem.F.plainAttrs_list PySem.F.slot_list_extend PySem.F.type_list_extend mt_extend (pv 2) (pa_cons (pe_lc (own := [("crew", 3), ("station", 4)]) (g := gTup K 2 (gCons (gName 3) (gCons (gName 4) (gNil)))) (tt := tYes) rfl sc_card_text.nd (Kd.pi_seq (pe_fld (pv 0) rfl)) (blkOk_by (own := [("crew", 3), ("station", 4)]) (N := nm_card_text) (sc := (defScope s_card_text)) (by decide +kernel)) (fun _ _ _ _ _ => (pg_tup rfl (pgs_cons (pg_name (i := 3) sc_card_text.nd rfl (Or.inl rfl)) (pgs_cons (pg_name (i := 4) sc_card_text.nd rfl (Or.inl rfl)) pgs_nil)))) (fun _ _ _ _ _ => pts_nil) (fun _ _ _ _ _ => (pe_joined (.cons (pe_fmt (pv 3)) (.cons pe_str (.cons (pe_fmt (pv 4)) .nil)))))) pa_nil)))
      (pss_one (ps_ret (pe_op op_add_str (pe_joined (.cons (pe_fmt (pe_fld (pv 0) rfl)) (.cons pe_str .nil))) (pe_join pe_str (pv 2)))))))), ?_⟩
    refine ⟨_, rfl, p, T.CC, dx, fs, _, rfl, hp, T.clCC, T.nOr, l2, p1, _, rfl, .inr hO, _, _, rfl, rfl, _, rfl, ?_⟩
    refine ifExp_k (G := fun x H1 => x = .str (SX.S (ordC q.order)) ∧ Same H H1) (fun c Q kk => ?_) (fun c Q kk => ?_) (fun x H1 hx => ?_)
    · have ne : q.order ≠ [] := fun e => by
        rw [lx, e] at c
        cases c
      refine ⟨_, rfl, p, T.CC, dx, fs, _, rfl, hp, T.clCC, T.nOr, l2, _, q.order, rfl, .tup hO hX1, fun n m => Nat.le_trans (ok.ord n m) (by decide), ?_, fun H' s => kk _ _ ⟨?_, s⟩⟩
      · exact Nat.le_trans (ord_len ok) (by decide)
      · unfold ordC
        rw [if_neg ne]
    · have ne : q.order = [] := by
        have := of_decide_eq_false c
        cases e : q.order with
        | nil => rfl
        | cons a b => rw [lx, e, List.length_cons] at this; exact absurd (by omega) this
      refine kk _ _ ⟨?_, Same.refl _⟩
      unfold ordC
      rw [if_pos ne]
      exact congrArg V.str (by decide +kernel)
    · obtain ⟨rfl, s1⟩ := hx
      have r9 : ∀ {ns : List Nat}, (∀ n ∈ ns, n ≤ 6) → ∀ n ∈ ns, n ≤ 9 := fun h n m => Nat.le_trans (h n m) (by decide)
      refine ⟨_, rfl, _, rfl, p, T.CC, dx, fs, _, rfl, s1 _ _ hp, T.clCC, T.nCo, l3, _, q.counts, rfl, D2.k (Kt.same s1), r9 ok.c6, by rw [ok.c3]; decide, fun H2 s2 => ?_⟩
      have s2 := s1.trans s2
      refine ⟨_, rfl, p, T.CC, dx, fs, _, rfl, s2 _ _ hp, T.clCC, T.nOw, l4, _, q.owed, rfl, D3.k (Kt.same s2), r9 ok.o6, by rw [ok.o3]; decide, fun H3 s3 => ?_⟩
      have s3 := s2.trans s3
      refine ⟨small_len (by show 3 ≤ 100000; decide), fun L hL => ?_⟩
      obtain ⟨p5, x5, rfl, hM, hX5⟩ := D4.inv
      have s4 := s3.trans (same_new (o := .lst [.str (SX.S (ordC q.order)), .str (SX.S (rowC q.counts)), .str (SX.S (rowC q.owed))]) hL)
      have hL4 : upd H3 L (.lst [.str (SX.S (ordC q.order)), .str (SX.S (rowC q.counts)), .str (SX.S (rowC q.owed))]) L = some (.lst [.str (SX.S (ordC q.order)), .str (SX.S (rowC q.counts)), .str (SX.S (rowC q.owed))]) := upd_same
      have nL : H L = none := by
        cases e : H L with
        | none => rfl
        | some o => rw [s3 _ _ e] at hL; cases hL
      generalize upd H3 L (.lst [.str (SX.S (ordC q.order)), .str (SX.S (rowC q.counts)), .str (SX.S (rowC q.owed))]) = H4 at *
      have lx5 := hX5.len
      have hM4 := sameT s4 hM
      rw [List.length_map] at lx5
      have l6 := ok.m6
      refine ⟨_, rfl, .inl ⟨rfl, _, SqL.of hL4⟩, _, rfl, p, T.CC, dx, fs, _, rfl, s4 _ _ hp, T.clCC, T.nMo, l5, p5, x5, true, rfl, hM4, fun J GG w hG D hD => ?_⟩
      refine Lm.lc_map (K := K) (te := fun σ H Q => tJs [tFmt (tVar 3), tC (V.str ">"), tFmt (tVar 4)] Str.empty σ H fun out H1 => Q (V.str out) H1) w (fun i y _ => ∃ x, q.moves[i]? = some x ∧ y = .str (SX.S (moveC x))) (fun _ _ _ _ h _ => h) hD (by omega) (fun H' s => hG _ (Hf.keepT s hM4)) (fun i x H' hi hx sm Q2 Z q2 => ?_) (fun H5 ys s5 hy ly hR => ?_)
      · obtain ⟨z, hz, dz⟩ := hX5.at hx
        rw [List.getElem?_map] at hz
        cases em : q.moves[i]? with
        | none => rw [em] at hz; cases hz
        | some xm =>
        rw [em] at hz
        cases hz
        have xm9 := ok.mv xm (List.mem_of_getElem? em)
        obtain ⟨pm, xs2, rfl, hP, hX2⟩ := dz.inv
        cases hX2 with | cons a1 r1 =>
        cases r1 with | cons a2 r2 =>
        cases r2
        cases a1
        cases a2
        refine ⟨pm, _, rfl, sameT (s4.trans sm) hP, rfl, _, _, rfl, _, _, rfl, rfl, rfl, yesT ?_⟩
        have e62 : (">" : Str) = SX.S [62] := by decide +kernel
        refine ⟨_, rfl, .inr ⟨_, rfl, small_log (by omega), ?_⟩⟩
        rw [dig_S (by omega)]
        refine ⟨_, rfl, js_len (a := []) (by simp), _, rfl, ?_⟩
        rw [show Str.empty ++ SX.S [xm.1 + 48] = SX.S [xm.1 + 48] from SX.S_cat [] _, show (Str.ofString ">" : Str) = SX.S [62] from e62, SX.S_cat]
        refine ⟨by rw [SX.S_len]; exact small_len (by simp), _, rfl, .inr ⟨_, rfl, small_log (by omega), ?_⟩⟩
        rw [dig_S (by omega)]
        refine ⟨_, rfl, js_len (by simp), ?_⟩
        rw [SX.S_cat]
        exact q2 _ _ (Same.refl _) ⟨xm, em, rfl⟩
      · rw [strs_at (f := fun x => SX.S (moveC x)) (by omega) hR] at hy
        refine ⟨L, D, _, _, rfl, rfl, s5 _ _ hL4, hy, ?_, ?_⟩
        · rw [List.length_map, List.length_map]
          exact small_len (by show 3 + q.moves.length ≤ 100000; omega)
        have eL : ([V.str (SX.S (ordC q.order)), .str (SX.S (rowC q.counts)), .str (SX.S (rowC q.owed))] ++ (q.moves.map fun x => SX.S (moveC x)).map V.str) = ((partsC q).map SX.S).map V.str := by
          unfold partsC
          rw [List.map_cons, List.map_cons, List.map_cons, List.map_cons, List.map_cons, List.map_cons, List.map_map (f := moveC)]
          rfl
        rw [eL]
        have np : p ≠ L := fun e => by rw [← e, s4 _ _ hp] at hL4; cases hL4
        have hp6 : upd H5 L (.lst (((partsC q).map SX.S).map V.str)) p = some (.ins T.CC dx fs) := by
          rw [upd_ne np]
          exact s5 _ _ (s4 _ _ hp)
        have hL6 : upd H5 L (.lst (((partsC q).map SX.S).map V.str)) L = some (.lst (((partsC q).map SX.S).map V.str)) := upd_same
        have s6 : Same H (upd H5 L (.lst (((partsC q).map SX.S).map V.str))) := same_mut (s4.trans s5) nL
        generalize upd H5 L (.lst (((partsC q).map SX.S).map V.str)) = H6 at *
        have c2 : (": " : Str) = SX.S [58, 32] := by decide +kernel
        have ld := num4 ok.num
        obtain ⟨u1, u2⟩ := parts_sum ok
        have ll := line_len ok
        have e6 : Txt.join " / " ((partsC q).map SX.S) = SX.S (joinL [32, 47, 32] (partsC q)) := by
          rw [← SX.join_S]
          congr 1
        have eD : numS q.ds = SX.S (codes q.ds) := rfl
        refine ⟨_, rfl, p, T.CC, dx, fs, _, rfl, hp6, T.clCC, T.nNu, l1, .inl ⟨_, rfl, ?_, ?_⟩⟩
        · rw [numS_len]
          exact small_len (by omega)
        refine ⟨_, rfl, ?_, ?_⟩
        · rw [eD]
          exact js_len (a := []) (by rw [codes_len]; simp; omega)
        rw [show Str.empty ++ numS q.ds = SX.S (codes q.ds) from SX.S_cat [] _]
        refine ⟨_, rfl, ?_, ?_⟩
        · rw [show (Str.ofString ": " : Str) = SX.S [58, 32] from c2]
          exact js_len (by rw [codes_len]; simp; omega)
        rw [show (Str.ofString ": " : Str) = SX.S [58, 32] from c2, SX.S_cat]
        refine ⟨⟨_, rfl⟩, _, rfl, _, L, (partsC q).map SX.S, rfl, rfl, .inl (SqL.of hL6), ?_, ?_⟩
        · rw [SX.lens, List.length_map]
          have u3 : ((partsC q).map (·.length)).sum ≤ 42 := u1
          show ((partsC q).map (·.length)).sum + (partsC q).length * 3 ≤ 16777216
          omega
        rw [show (Str.ofString " / " : Str) = (" / " : Str) from rfl, e6]
        refine ⟨_, _, rfl, rfl, ?_, ?_⟩
        · rw [SX.S_len, SX.S_len, ← List.length_append, List.append_assoc]
          exact small_len (by show (lineC q).length ≤ _; omega)
        rw [SX.S_cat, List.append_assoc]
        exact k _ s6
end
end K54

namespace K54
open PySem L2 Wm TL Dv De
section
variable {P : Program} {w : World} {K : PySem.W.Frag} {mg : Str → Option Value} {base : Heap}
theorem room1 {A : Around} {k : Nat} (hr : Room k A) {x : Option Value} : (A.mark x).depth + 1 < recursionLimit := by
  show A.depth + 1 < recursionLimit
  have := hr.dp
  omega
theorem par_str (t : Str) : (∃ a b, par [58, 32] [] (tl t) = some (a, b) ∧ (Txt.partition t ": ").1 = SX.S a ∧ (Txt.partition t ": ").2.2 = SX.S b ∧ a.length + b.length ≤ t.length) ∨
    (par [58, 32] [] (tl t) = none ∧ (Txt.partition t ": ").1 = t ∧ (Txt.partition t ": ").2.2 = SX.S []) := by
  have c2 : tl (": " : Str) = [58, 32] := by decide +kernel
  have e := partition_par t ": " (by rw [c2]; simp)
  rw [c2] at e
  cases h : par [58, 32] [] (tl t) with
  | none =>
    rw [h] at e
    rw [e]
    exact .inr ⟨rfl, rfl, rfl⟩
  | some x =>
    obtain ⟨a, b⟩ := x
    rw [h] at e
    rw [e]
    have l := congrArg List.length (par_app _ _ _ _ h)
    rw [List.nil_append, List.length_append, List.length_append, ← len_tl] at l
    exact .inl ⟨a, b, rfl, rfl, rfl, by omega⟩
theorem split3 {t : Str} : (Txt.split t " / ").map tl = spl [32, 47, 32] 0 [] (tl t) := split_tl (by decide +kernel) (by simp) (by decide)
theorem split3_len (t : Str) : (Txt.split t " / ").length ≤ t.length + 1 ∧ ∀ w ∈ Txt.split t " / ", w.length ≤ t.length := by
  constructor
  · have e := num_len (S := [32, 47, 32]) (p := []) (ps := (Txt.split t " / ").map tl) (by simp)
    rw [List.length_map, split3, join_spl (by simp), ← len_tl] at e
    exact e
  · intro w0 m
    have e := mem_len (S := [32, 47, 32]) (List.mem_map_of_mem (f := tl) m)
    rw [split3, join_spl (by simp), ← len_tl, ← len_tl] at e
    exact e
theorem digs_len (s : Nat) (t : List Nat) : (digsD s t).length ≤ t.length + 1 := by
  have e := num_len (S := [s]) (p := []) (ps := spl [s] 0 [] t) (by simp)
  rw [join_spl (by simp)] at e
  unfold digsD
  rw [List.length_map]
  exact e
theorem digs_en {N : Addr → Prop} {H : Hp} (s : Nat) (t : List Nat) : Ens K N H ((digsD s t).map vD) (digsD s t) := ens_words _
theorem dash_eq (w : Str) : (w = "-") ↔ tl w = [45] := by
  have e : tl ("-" : Str) = [45] := by decide +kernel
  constructor
  · rintro rfl
    exact e
  · intro h
    exact ext_tl (h.trans e.symm)
theorem cut_from (xs : List V) (z : Nat) (h : z ≤ xs.length) : cutV xs (some (z : Int)) none = xs.drop z := by
  unfold cutV
  rw [HT.sIx_nat, HT.sIx_none, Nat.min_eq_left h, List.take_of_length_le (by rw [List.length_drop]; omega)]
theorem ens_at {N : Addr → Prop} {H : Hp} : ∀ {ys : List V} {ds : List PyData}, ys.length = ds.length → (∀ (i : Nat) y, ys[i]? = some y → ∃ d, ds[i]? = some d ∧ En K N H y d) → Ens K N H ys ds
  | [], [], _, _ => .nil
  | y :: ys, d :: ds, l, h => by
    obtain ⟨d2, e, e2⟩ := h 0 y rfl
    cases e
    exact .cons e2 (ens_at (by simpa using l) fun i z hz => h (i + 1) z hz)
theorem ok_read_card (T : Txt K mg) : FnOk P w K mg base (L2.CX P w) 8 T.a_read_card T.d_read_card ["text"] (sp_read_card K T.CC T.CT) := by
  refine T.F_read_card.okX sc_read_card (fun vs H Q E h => ?_) (fun cdv A outer s H vs Q E hr h => ?_)
  · obtain ⟨v, d, N, rfl, _⟩ := h
    rfl
  · obtain ⟨v, d, N, rfl, hd, hh⟩ := h
    refine ⟨_, (pss_cons (ps_if (pt_not (pt_val (pe_callB call_isi (by rfl) T.z_isinstance (by decide +kernel) (pa_cons (pv 0) (pa_cons (pe_bltn (v := V.ty "str") (by rfl) T.z_str (by decide +kernel) rfl) pa_nil)))))
        (pss_one (ps_raiseLowT rfl T.lowT hr (takes_of rfl rfl rfl rfl) (by exact (pa_cons (pv 0) pa_nil))))
        pss_nil)
      (pss_cons (ps_asg (pe_partition (pv 0) pe_str) (pg_tup rfl (pgs_cons (pg_name (i := 1) sc_read_card.nd rfl (Or.inl rfl)) (pgs_cons (pg_name (i := 2) sc_read_card.nd rfl (Or.inl rfl)) (pgs_cons (pg_name (i := 3) sc_read_card.nd rfl (Or.inl rfl)) pgs_nil)))))
      (pss_cons (ps_set (i := 4) sc_read_card.nd rfl (Or.inl rfl) (pe_split (pv 3) pe_str))
      (pss_cons (ps_if (pt_cmpR op_lt (pe_callB call_len_seq (by rfl) T.z_len PySem.boot_len (pa_cons (pv 4) pa_nil)) pe_int (nomark _))
        (pss_one (ps_raiseLowT rfl T.lowT hr (takes_of rfl rfl rfl rfl) (by exact (pa_cons (pv 0) pa_nil))))
        pss_nil)
      (pss_cons (ps_set (i := 5) sc_read_card.nd rfl (Or.inl rfl) (pe_ifExp (pt_cmpR op_eq (pe_ix ix_list (pv 4) pe_int (fun _ _ => rfl)) (pe_glob (v := V.str "-") rfl T.c_EMPTY ⟨_, rfl⟩) (nomark _)) (pe_lst pa_nil) (pe_call (ok_digits_in T) (hr.mono (by decide)) (by rfl) T.g_digits_in T.F_digits_in.kp T.b_digits_in .nil pass0 (pa_cons (pe_ix ix_list (pv 4) pe_int (fun _ _ => rfl)) (pa_cons pe_str pa_nil)))))
      (pss_cons (ps_setLc (i := 6) (own := [("part", 7)]) (g := gName 7) (tt := tYes) rfl sc_read_card.nd rfl rfl (sw_true rfl rfl rfl (by decide +kernel)) (Kd.pi_seq (pe_slice sl_list (pv 4) (po_some pe_int) po_none)) (blkOk_by (own := [("part", 7)]) (N := nm_read_card) (sc := (defScope s_read_card)) (by decide +kernel)) (fun _ _ _ _ _ => pg_name (i := 7) sc_read_card.nd rfl (Or.inl rfl)) (fun _ _ _ _ _ => pts_nil) (fun _ _ _ _ _ => (pe_call (ok_digits_in T) (hr.mono (by decide)) (by rfl) T.g_digits_in T.F_digits_in.kp T.b_digits_in .nil pass0 (pa_cons (pv 7) (pa_cons pe_str pa_nil)))))
      (pss_one (Rf.ps_try_asR (i := 8) rfl rfl rfl rfl sc_read_card.nd rfl rfl ⟨rfl, by decide, Or.inl T.lowC.gC⟩ (fun U pn xe tk _ => (pss_one (ps_ret (Kw.pe_makeKS T.mk_cinit (ok_cinit T) (hr.mono (by decide)) (by rfl) T.gCC T.kb_cinit (fun σ => L2N.passAt tk σ) (pa_cons (pv 1) (pa_cons (pv 5) pa_nil)) (pk_cons (pe_call (ok_digits_in T) (hr.mono (by decide)) (by rfl) T.g_digits_in T.F_digits_in.kp T.b_digits_in .nil pass0 (pa_cons (pe_ix (show IxR _ (rIxL K) from ix_list) (pv 4) pe_int (fun _ _ => rfl)) (pa_cons pe_str pa_nil))) (pk_cons (pe_call (ok_digits_in T) (hr.mono (by decide)) (by rfl) T.g_digits_in T.F_digits_in.kp T.b_digits_in .nil pass0 (pa_cons (pe_ix (show IxR _ (rIxL K) from ix_list) (pv 4) pe_int (fun _ _ => rfl)) (pa_cons pe_str pa_nil))) (pk_cons (pv 6) pk_nil))))))) (fun a oe cls d pn xe hz hf tkS => (pss_one (Rf.ps_raise_sx (i := 8) hz hf tkS (pmkS_lowT T.lowT (room1 hr) (by exact (pa_cons (pv 0) pa_nil))) rfl rfl))))))))))), ?_⟩
    obtain ⟨ty, t1, t2⟩ := isi_en hd
    refine ⟨_, rfl, _, _, _, _, stB d, rfl, .ty "str", t1, t2.str, stB d, rfl, ?_⟩
    rcases hh with ⟨t, rfl, lt, kk, er⟩ | ⟨nt, er⟩
    case inr =>
      have e : stB d = false := by
        cases d with
        | str x => exact absurd rfl (nt x)
        | _ => rfl
      rw [e]
      exact iteT ⟨_, rfl, _, rfl, fun dd hdd => er _ _ (same_new hdd) upd_same⟩
    cases hd
    refine iteF ⟨_, rfl, ⟨_, rfl⟩, t, _, rfl, rfl, by decide +kernel, small_len (by omega), fun pp hpp => ?_⟩
    have s1 := same_new (o := .tup [V.str (Txt.partition t ": ").1, .str (Txt.partition t ": ").2.1, .str (Txt.partition t ": ").2.2]) hpp
    have hT : SqT K (upd H pp (.tup [V.str (Txt.partition t ": ").1, .str (Txt.partition t ": ").2.1, .str (Txt.partition t ": ").2.2])) pp [V.str (Txt.partition t ": ").1, .str (Txt.partition t ": ").2.1, .str (Txt.partition t ": ").2.2] := .inl (.inl upd_same)
    generalize upd H pp (.tup [V.str (Txt.partition t ": ").1, .str (Txt.partition t ": ").2.1, .str (Txt.partition t ": ").2.2]) = H1 at *
    refine ⟨pp, _, rfl, hT, rfl, _, _, rfl, _, _, rfl, _, _, rfl, rfl, ?_⟩
    have par := par_str t
    generalize (Txt.partition t ": ").1 = nu at *
    generalize (Txt.partition t ": ").2.2 = re at *
    generalize (Txt.partition t ": ").2.1 = md at *
    have lnu : nu.length ≤ 900 ∧ re.length ≤ 900 := by
      rcases par with ⟨a, b, _, rfl, rfl, l⟩ | ⟨_, rfl, rfl⟩
      · rw [SX.S_len, SX.S_len]
        omega
      · exact ⟨lt, by rw [SX.S_len]; simp⟩
    have sp := split3 (t := re)
    obtain ⟨lp, lw⟩ := split3_len re
    refine ⟨_, rfl, ⟨_, rfl⟩, re, _, rfl, rfl, by decide +kernel, small_len (by omega), fun L hL => ?_⟩
    rw [show (Str.ofString " / " : Str) = (" / " : Str) from rfl] at *
    generalize Txt.split re " / " = ps at *
    have s2 := s1.trans (same_new (o := .lst (ps.map V.str)) hL)
    have hL2 : SqL K (upd H1 L (.lst (ps.map V.str))) L (ps.map V.str) := SqL.of upd_same
    generalize upd H1 L (.lst (ps.map V.str)) = H2 at *
    refine ⟨_, rfl, L, _, rfl, .inl hL2, _, _, rfl, rfl, _, rfl, ?_⟩
    have key : ∀ q, CdOk q → t = lineT q → nu = SX.S (codes q.ds) ∧ ps.map tl = partsC q := fun q ok e => by
      have e2 : tl t = lineC q := by rw [e]; rfl
      rcases par with ⟨a, b, e3, rfl, rfl, _⟩ | ⟨e3, _⟩
      · rw [e2, line_par ok] at e3
        obtain ⟨rfl, rfl⟩ := Prod.mk.inj (Option.some.inj e3)
        exact ⟨rfl, sp.trans (line_spl ok)⟩
      · rw [e2, line_par ok] at e3
        cases e3
    by_cases c3 : ps.length < 3
    · rw [decide_eq_true (by rw [List.length_map]; omega)]
      refine iteT ⟨_, rfl, _, rfl, fun dd hdd => er (fun q ok e => ?_) _ _ (s2.trans (same_new hdd)) upd_same⟩
      have e2 := congrArg List.length (key q ok e).2
      unfold partsC at e2
      rw [List.length_map, List.length_cons, List.length_cons, List.length_cons] at e2
      omega
    rw [decide_eq_false (by rw [List.length_map]; omega)]
    obtain ⟨w0, w1, w2, wr, rfl⟩ : ∃ w0 w1 w2 wr, ps = w0 :: w1 :: w2 :: wr := by
      match ps, c3 with
      | w0 :: w1 :: w2 :: wr, _ => exact ⟨w0, w1, w2, wr, rfl⟩
      | [], c => exact absurd (by simp) c
      | [_], c => exact absurd (by simp) c
      | [_, _], c => exact absurd (by simp) c
    have lw0 := lw w0 (by simp)
    have lw1 := lw w1 (by simp)
    have lw2 := lw w2 (by simp)
    have tsp : tl (" " : Str) = [32] := by decide +kernel
    have tgt : tl (">" : Str) = [62] := by decide +kernel
    refine iteF ⟨_, rfl, L, _, 0, _, rfl, rfl, hL2, atI_nat (j := 0) rfl, rfl, _, rfl, ?_⟩
    refine ifExp_k (G := fun x Hx => Same H2 Hx ∧ ∃ D, x = .ref D ∧ Hx D = some (.lst ((if tl w0 = [45] then [] else digsD 32 (tl w0)).map vD))) (fun c Q kq => ?_) (fun c Q kq => ?_) (fun x H3 hx => ?_)
    · have c := (dash_eq w0).mp (V.str.inj (of_decide_eq_true c))
      refine ⟨small_len (by show 0 ≤ 100000; decide), fun D hD => kq _ _ ⟨same_new hD, D, rfl, ?_⟩⟩
      rw [if_pos c]
      exact upd_same
    · have c : ¬ tl w0 = [45] := fun e => of_decide_eq_false c (congrArg V.str ((dash_eq w0).mpr e))
      refine ⟨_, rfl, L, _, 0, _, rfl, rfl, hL2, atI_nat (j := 0) rfl, w0, _, 32, rfl, tsp, by decide, by omega, fun H' D s _ hD => kq _ _ ⟨s, D, rfl, ?_⟩⟩
      rw [if_neg c]
      exact hD
    obtain ⟨s3, D1, rfl, hD1⟩ := hx
    have hL3 := Hf.keepL s3 hL2
    refine ⟨_, rfl, 3, rfl, L, _, rfl, hL3, fun q hq => ?_⟩
    rw [show cutV ((w0 :: w1 :: w2 :: wr).map V.str) (some 3) none = wr.map V.str from cut_from _ 3 (by simp)]
    have s4 := s3.trans (same_new (o := .lst (wr.map V.str)) hq)
    have hQ : SqL K (upd H3 q (.lst (wr.map V.str))) q (wr.map V.str) := SqL.of upd_same
    have hD1 := same_new (o := .lst (wr.map V.str)) hq _ _ hD1
    have hL3 := Hf.keepL (same_new (o := .lst (wr.map V.str)) hq) hL3
    generalize upd H3 q (.lst (wr.map V.str)) = H4 at *
    refine ⟨q, _, false, rfl, hQ, fun J GG w hG D hD => ?_⟩
    have lwr : wr.length ≤ 900 := by
      rw [List.length_cons, List.length_cons, List.length_cons] at lp
      omega
    refine Lm.lc_any w (fun i y H' => ∃ Di wi, y = .ref Di ∧ Di ≠ D ∧ wr[i]? = some wi ∧ H' Di = some (.lst ((digsD 62 (tl wi)).map vD))) (fun i y Ha Hb ys h _ b => ?_) (fun _ _ _ _ y => by obtain ⟨rfl, _⟩ := y; exact Same.refl _) hD (by rw [List.length_map]; omega) (fun H' s => hG _ (Hf.keepL s hQ)) (fun i x Ha Hb hi sm hDD hY Q2 Z q2 => ?_) (fun H5 ys s5 hy ly hR => ?_)
    · obtain ⟨Di, wi, e1, e2, e3, e4⟩ := h
      exact ⟨Di, wi, e1, e2, e3, b _ _ e2 e4⟩
    · obtain ⟨rfl, hx⟩ := hY
      rw [List.getElem?_map] at hx
      cases ew : wr[i]? with
      | none => rw [ew] at hx; cases hx
      | some wi =>
      rw [ew] at hx
      cases hx
      obtain ⟨ys0, hDD⟩ := hDD
      have lwi := lw wi (by have := List.mem_of_getElem? ew; simp [this])
      refine ⟨rfl, yesT ⟨_, rfl, wi, _, 62, rfl, tgt, by decide, by omega, fun H' Di s nD hDi => q2 _ _ s ⟨Di, wi, rfl, fun e => ?_, ew, hDi⟩⟩⟩
      rw [e, hDD] at nD
      cases nD
    have hL5 := Hf.keepL s5 hL3
    have hD5 := s5 _ _ hD1
    have s5 := (s2.trans s4).trans s5
    have eM : En K (fun _ => True) H5 (.ref D) (sD (wr.map tl)) := by
      refine .lst trivial hy ?_
      rw [List.map_map]
      refine ens_at (by rw [List.length_map] at ly; rw [List.length_map]; exact ly) fun i y hi => ?_
      obtain ⟨Di, wi, rfl, _, e3, e4⟩ := hR i y hi
      exact ⟨_, by rw [List.getElem?_map, e3]; rfl, .lst trivial e4 (digs_en 62 _)⟩
    refine ⟨_, rfl, _, rfl, ⟨_, rfl, L, _, 1, _, rfl, rfl, hL5, atI_nat (j := 1) rfl, w1, _, 32, rfl, tsp, by decide, by omega, fun H6 D6 s6 _ hD6 => ?_⟩⟩
    refine ⟨_, rfl, L, _, 2, _, rfl, rfl, Hf.keepL s6 hL5, atI_nat (j := 2) rfl, w2, _, 32, rfl, tsp, by decide, by omega, fun H7 D7 s7 _ hD7 => ?_⟩
    refine ⟨_, rfl, rfl, rfl, fun x dx hx hdx nx => ?_⟩
    have s67 := s6.trans s7
    have sX : Same H7 (upd (upd H7 dx (.own x)) x (.ins T.CC dx [])) := (same_new hdx).trans (same_new (by rw [upd_ne (fun e => nx e.symm)]; exact hx))
    have sY : Same H (upd (upd H7 dx (.own x)) x (.ins T.CC dx [])) := (s5.trans s67).trans sX
    have e1 : En K (fun _ => True) (upd (upd H7 dx (.own x)) x (.ins T.CC dx [])) (.ref D1) (oD (tl w0)) := by
      refine .lst trivial (sX _ _ (s67 _ _ hD5)) ?_
      split
      · exact .nil
      · exact digs_en 32 _
    have e2 : En K (fun _ => True) (upd (upd H7 dx (.own x)) x (.ins T.CC dx [])) (.ref D6) (cD (tl w1)) := .lst trivial (sX _ _ (s7 _ _ hD6)) (digs_en 32 _)
    have e3 : En K (fun _ => True) (upd (upd H7 dx (.own x)) x (.ins T.CC dx [])) (.ref D7) (cD (tl w2)) := .lst trivial (sX _ _ hD7) (digs_en 32 _)
    have e4 := eM.ks (s67.trans sX)
    have nx0 : H x = none := by
      cases e : H x with
      | none => rfl
      | some o => rw [(s5.trans s67) _ _ e] at hx; cases hx
    refine ⟨x, dx, _, _, _, _, _, .str nu, _, _, _, _, _, rfl, upd_same, .str _, e1, e2, e3, e4, fun t2 h2 => ?_, ?_, fun q fit ok H8 off hC => ⟨rfl, ?_⟩, fun z hz => ?_⟩
    · cases h2
      exact Nat.le_trans lnu.1 (by decide)
    · have := digs_len 32 (tl w0)
      rw [← len_tl] at this
      show (if tl w0 = [45] then [] else digsD 32 (tl w0)).length ≤ 1000
      split
      · decide
      · omega
    · have fit : Fit (.str nu) (oD (tl w0)) (cD (tl w1)) (cD (tl w2)) (sD (wr.map tl)) q := fit
      have et : t = lineT q := by
        rcases par with ⟨a, b, e3, rfl, rfl, _⟩ | ⟨_, _, rfl⟩
        · exact ext_tl (read_line e3 sp.symm fit)
        · have := congrArg List.length sp
          simp [spl] at this
      refine kk q ok et H8 x (fun a o e => off _ _ (fun z => ?_) (sY _ _ e)) hC
      rw [z, nx0] at e
      cases e
    · intro H8 d8 s8 h8
      have nq : ∀ q, CdOk q → t ≠ lineT q := fun q ok e => by
        obtain ⟨rfl, k2⟩ := key q ok e
        unfold partsC at k2
        obtain ⟨c1, k2⟩ := List.cons.inj k2
        obtain ⟨c2, k2⟩ := List.cons.inj k2
        obtain ⟨c3, c4⟩ := List.cons.inj k2
        have f := (Fit.line ok).fault ok
        rw [← c1, ← c2, ← c3, ← c4] at f
        have hz : faultW (.str (SX.S (codes q.ds))) (oD (tl w0)) (cD (tl w1)) (cD (tl w2)) (sD (wr.map tl)) = some z := hz
        rw [f] at hz
        cases hz
      refine ⟨T.lowC.te, fun a na => ⟨T.lowC.exC, rfl, _, rfl, _, rfl, fun d9 h9 => er nq _ _ ((sY.trans s8).trans (same_new h9)) upd_same⟩⟩
end
end K54

namespace K54
open PySem L2 Wm TL Dv De
section
variable {P : Program} {w : World} {K : PySem.W.Frag} {mg : Str → Option Value} {base : Heap}
/-- list(a list or a tuple) -/
def rLstS (K : PySem.W.Frag) : List V → Hp → VK → Prop := fun xs H Q => ∃ p ys t, xs = [.ref p] ∧ Kd.Is K t H p ys ∧ ∀ l, l ≠ sysModules → H l = none → Q (.ref l) (upd H l (.lst ys))
theorem call_lstS {X : Cx} (e : X.K = K) : CallR X (.type "list") (rLstS K) := by
  subst e
  intro pins s σ H xs us Q I hv h
  obtain ⟨p, ys, t, rfl, hI, k⟩ := h
  exact Dz.call_listZ pins s σ H _ us Q I hv ⟨p, ys, rfl, hI.sq, k⟩
theorem Bk.k {H H' : Hp} {b : Addr} (h : Bk H b) (s : Same H H') : Bk H' b := let ⟨x, y, a, c⟩ := h; ⟨x, y, s _ _ a, c⟩
theorem Bk.off2 {H H' : Hp} {b p : Addr} (h : Bk H b) (s : Off p H H') (n : b ≠ p) : Bk H' b := let ⟨x, y, a, c⟩ := h; ⟨x, y, s _ _ n a, c⟩
theorem none_of {H H' : Hp} {b : Addr} (s : Same H H') (h : H' b = none) : H b = none := by
  cases e : H b with
  | none => rfl
  | some o => rw [s _ _ e] at h; cases h
theorem Bk.off {H : Hp} {b D : Addr} (h : Bk H b) (f : H D = none) : D ≠ b := let ⟨_, _, a, _⟩ := h; (ne_of_none a f).symm
theorem fmod_in {x l : Int} (h : 0 < l) : 0 ≤ x % l ∧ x % l < l := ⟨Int.emod_nonneg x (by omega), Int.emod_lt_of_pos x h⟩
theorem cut_some (ns : List Int) (hi : Option Int) : ∃ m, cutV (ns.map V.int) none hi = (ns.take m).map V.int := by
  refine ⟨HT.sIx (ns.map V.int).length (ns.map V.int).length hi - HT.sIx (ns.map V.int).length 0 none, ?_⟩
  unfold cutV
  rw [HT.sIx_none, List.drop_zero, List.map_take]
theorem ok_bag (T : Txt K mg) : FnOk P w K mg base CX0 1 T.a_bag T.d_bag ["_law_script", "_law_at"] (sp_bag K) := by
  refine T.F_bag.ok sc_bag (fun vs H Q E h => ?_) (fun cdv A outer s H vs Q E hr h => ?_)
  · obtain ⟨a, ns, i, rfl, _⟩ := h
    rfl
  · obtain ⟨a, ns, i, rfl, hS, hlen, hi, k⟩ := h
    refine ⟨_, (C8.pss_cut (ps_set (i := 2) sc_bag.nd rfl (Or.inl rfl) (pe_ifExp (pt_cmpR op_lt (pv 1) (pe_callB call_len_seq (by rfl) T.z_len PySem.boot_len (pa_cons (pv 0) pa_nil)) (nomark _)) (pe_ix ix_list (pv 0) (pv 1) (fun _ _ => rfl)) pe_int))
      (pss_cons (ps_set (i := 3) sc_bag.nd rfl (Or.inl rfl) (pe_op op_add (pe_op op_mul pe_int (pv 1)) pe_int))
      (pss_cons (ps_for PassesOwn.never rfl (pi_enum (by rfl) T.z_enumerate (pa_cons (pe_slice sl_list (pv 0) po_none (po_some pe_int)) pa_nil)) (pg_tup rfl (pgs_cons (pg_name (i := 4) sc_bag.nd rfl (Or.inl rfl)) (pgs_cons (pg_name (i := 5) sc_bag.nd rfl (Or.inl rfl)) pgs_nil)))
        (pss_one (ps_set (i := 3) sc_bag.nd rfl (Or.inl rfl) (pe_op op_mod (pe_callTy call_int1 (by rfl) T.z_int (by decide +kernel) (pa_cons (pe_op op_add (pe_op op_add (pe_op op_mul (pv 3) pe_int) (pe_op op_mod (pe_callTy call_int1 (by rfl) T.z_int (by decide +kernel) (pa_cons (pv 5) pa_nil)) pe_int)) (pe_op op_mul pe_int (pv 4))) pa_nil)) pe_int))))
      (pss_one (ps_ret (pe_lst (pa_cons (pe_ifExp (pt_cmpR op_ge (pe_callB call_abs (by rfl) T.z_abs (by decide +kernel) (pa_cons (pv 2) pa_nil)) (pe_op op_pow pe_int pe_int) (nomark _)) (pe_callB call_abs (by rfl) T.z_abs (by decide +kernel) (pa_cons (pv 2) pa_nil)) pe_int) (pa_cons (pv 3) pa_nil)))))))), ?_⟩
    refine ⟨fun σ A => ∃ z : Int, σ = [some (.ref a), some (.int (i : Nat)), some (.int z), none, none, none] ∧ A = H, ?_, ?_⟩
    · refine ⟨_, rfl, _, rfl, a, _, rfl, .inl hS, _, _, rfl, rfl, _, rfl, ite2 (fun c => ?_) (fun c => ?_)⟩
      · have c := of_decide_eq_true c
        rw [List.length_map] at c
        have hj : i < ns.length := by omega
        have g : (ns.map V.int)[i]? = some (.int ns[i]) := by rw [List.getElem?_map, List.getElem?_eq_getElem hj]; rfl
        exact ⟨_, rfl, _, rfl, a, _, _, _, rfl, rfl, hS, atI_nat g, _, rfl, rfl⟩
      · exact ⟨0, rfl, rfl⟩
    rintro σ A ⟨z, rfl, rfl⟩
    refine ⟨_, rfl, _, _, rfl, rfl, .inl ⟨by decide, by decide⟩, _, _, rfl, rfl, ?_⟩
    refine ⟨_, rfl, _, rfl, a, _, rfl, hS, fun p hp => ?_⟩
    obtain ⟨m, em⟩ := cut_some ns (some 63)
    rw [em]
    have hml : (ns.take m).length ≤ 63 := by rw [List.length_take]; omega
    generalize ns.take m = ms at hml
    have sp := same_new (o := .lst (ms.map V.int)) hp
    have hp1 : upd A p (.lst (ms.map V.int)) p = some (.lst (ms.map V.int)) := upd_same
    generalize upd A p (.lst (ms.map V.int)) = H1 at sp hp1 ⊢
    refine ⟨p, _, rfl, SqL.of hp1, ?_⟩
    have kB : ∀ B, Same H1 B → SqL K B p (ms.map V.int) := fun B q => SqL.of (q _ _ hp1)
    refine for_it walk_enum (fun j σ B => (∃ (x : Int) (v4 v5 : Option V), σ = [some (.ref a), some (.int (i : Nat)), some (.int z), some (.int x), v4, v5] ∧ 0 ≤ x ∧ x < 2147483648) ∧ Same H1 B)
      ⟨⟨_, none, none, rfl, by omega, by omega⟩, fun _ _ e => e⟩ (fun j σ B _ h => kB B h.2) (fun j w σ B B' hj hP hY => ?_) (fun σ B hP => ?_)
    · obtain ⟨⟨x, v4, v5, rfl, x0, x1⟩, sB⟩ := hP
      obtain ⟨tp, y1, y2, rfl, htp, rfl, e1, e2⟩ := hY
      cases e1
      have e2 : (ms.map V.int)[j]? = some y2 := e2
      rw [List.getElem?_map] at e2
      obtain ⟨n, en, rfl⟩ := Option.map_eq_some_iff.mp e2
      have hjm := (List.getElem?_eq_some_iff.mp en).1
      have sC := sB.trans (same_new (o := .tup [.int (j : Nat), .int n]) htp)
      refine ⟨tp, _, rfl, SqT.of upd_same, rfl, _, _, rfl, _, _, rfl, rfl, ?_⟩
      refine ⟨_, rfl, _, _, rfl, rfl, .inr ⟨by decide, by decide⟩, ?_⟩
      refine ⟨_, rfl, .inl ⟨_, rfl, _, _, rfl, rfl, (by decide : (0 : Int) < 2147483549), ?_⟩⟩
      refine ⟨_, _, rfl, rfl, ?_⟩
      refine ⟨_, rfl, _, _, rfl, rfl, .inl ⟨by decide, by decide⟩, ?_⟩
      refine ⟨_, _, rfl, rfl, .inl ⟨_, rfl, _, _, rfl, rfl, (by decide : (0 : Int) < 2147483587), ?_⟩⟩
      have := fmod_in (x := x * 48271 + n % 2147483549 + 613 * (j : Nat)) (l := 2147483587) (by decide)
      exact ⟨⟨_, _, _, rfl, this.1, by omega⟩, sC⟩
    · obtain ⟨⟨x, v4, v5, rfl, x0, x1⟩, sB⟩ := hP
      have c10 : (10 : Int) ^ Int.toNat 18 = 1000000000000000000 := by decide +kernel
      refine ⟨_, rfl, _, rfl, _, _, rfl, rfl, ⟨by decide, by decide, by decide +kernel⟩, _, _, rfl, rfl, _, rfl, ite2 (fun c => ?_) (fun c => ?_)⟩
      · refine ⟨_, rfl, _, rfl, _, rfl, by show 2 ≤ sizeLine; decide, fun b hb => ?_⟩
        exact k _ b ((sp.trans sB).trans (same_new hb)) (none_of ((sp.trans sB)) hb) ⟨_, _, upd_same, by split <;> omega, x0, x1⟩
      · refine ⟨_, rfl, by show 2 ≤ sizeLine; decide, fun b hb => ?_⟩
        exact k _ b ((sp.trans sB).trans (same_new hb)) (none_of ((sp.trans sB)) hb) ⟨_, _, upd_same, by decide, x0, x1⟩
theorem ok_take (T : Txt K mg) : FnOk P w K mg base CX0 1 T.a_take T.d_take ["_law_bag_here", "_law_many"] (sp_take K) := by
  refine T.F_take.ok sc_take (fun vs H Q E h => ?_) (fun cdv A outer s H vs Q E hr h => ?_)
  · obtain ⟨b, m, rfl, _⟩ := h
    rfl
  · obtain ⟨b, m, rfl, ⟨x, y, hb, x0, y0, y1⟩, m0, m1, k⟩ := h
    have l0 : (0 : Int) < (m : Nat) := by omega
    refine ⟨_, (pss_cons (ps_if (pt_cmpR op_gt (pe_ix ix_list (pv 0) pe_int (fun _ _ => rfl)) pe_int (nomark _))
        (pss_cons (ps_set (i := 2) sc_take.nd rfl (Or.inl rfl) (pe_op op_mod (pe_callTy call_int1 (by rfl) T.z_int (by decide +kernel) (pa_cons (pe_ix ix_list (pv 0) pe_int (fun _ _ => rfl)) pa_nil)) (pv 1)))
        (pss_cons (ps_asg (pe_op op_fdivW (pe_ix ix_list (pv 0) pe_int (fun _ _ => rfl)) (pv 1)) (pg_sub (pv 0) pe_int set_list))
        (pss_one (ps_ret (pv 2)))))
        pss_nil)
      (pss_cons (ps_asg (pe_op op_mod (pe_callTy call_int1 (by rfl) T.z_int (by decide +kernel) (pa_cons (pe_op op_add (pe_op op_mul (pe_ix ix_list (pv 0) pe_int (fun _ _ => rfl)) pe_int) pe_int) pa_nil)) pe_int) (pg_sub (pv 0) pe_int set_list))
      (pss_one (ps_ret (pe_op op_mod (pe_op op_fdivW (pe_op op_mod (pe_callTy call_int1 (by rfl) T.z_int (by decide +kernel) (pa_cons (pe_op op_mul (pe_op op_fdivW (pe_ix ix_list (pv 0) pe_int (fun _ _ => rfl)) pe_int) pe_int) pa_nil)) pe_int) pe_int) (pv 1)))))), ?_⟩
    refine ⟨_, rfl, b, _, 0, _, rfl, rfl, SqL.of hb, atI_nat (j := 0) rfl, _, _, rfl, rfl, _, rfl, ite2 (fun c => ?_) (fun c => ?_)⟩
    · refine ⟨_, rfl, b, _, 0, _, rfl, rfl, SqL.of hb, atI_nat (j := 0) rfl, .inl ⟨_, rfl, ?_⟩⟩
      refine ⟨_, rfl, _, _, rfl, rfl, l0, ?_⟩
      refine ⟨_, rfl, b, _, 0, _, rfl, rfl, SqL.of hb, atI_nat (j := 0) rfl, _, rfl, _, _, rfl, rfl, wide_div l0 (b := 100) (by omega) (by decide) (by decide), ?_⟩
      refine ⟨_, rfl, b, _, 0, 0, rfl, rfl, hb, rfl, ?_⟩
      obtain ⟨d, ed⟩ : ∃ d : Nat, x % (m : Nat) = (d : Nat) := ⟨(x % (m : Nat)).toNat, by have := (fmod_in (x := x) l0).1; omega⟩
      have hd := (fmod_in (x := x) l0).2
      refine ⟨_, rfl, ?_⟩
      (try dsimp only)
      rw [ed] at hd ⊢
      exact k _ d (by omega) Off.set ⟨_, _, upd_same, Int.ediv_nonneg x0 (by omega), y0, y1⟩
    · refine ⟨_, rfl, b, _, 1, _, rfl, rfl, SqL.of hb, atI_nat (j := 1) rfl, _, _, rfl, rfl, .inr ⟨by decide, by decide⟩, _, _, rfl, rfl, .inl ⟨_, rfl, ?_⟩⟩
      refine ⟨_, _, rfl, rfl, (by decide : (0 : Int) < 2147483647), ?_⟩
      refine ⟨_, rfl, b, _, 1, 1, rfl, rfl, hb, rfl, ?_⟩
      have z0 := fmod_in (x := y * 69621 + 77003) (l := 2147483647) (by decide)
      dsimp only
      generalize (y * 69621 + 77003) % 2147483647 = z at z0 ⊢
      refine ⟨_, rfl, b, _, 1, _, rfl, rfl, SqL.of upd_same, atI_nat (j := 1) rfl, _, _, rfl, rfl, wide_div (by decide) (b := 100) (by decide) (by decide) (by decide), ?_⟩
      have q0 : 0 ≤ z / 13 ∧ z / 13 < 2147483648 := ⟨Int.ediv_nonneg z0.1 (by decide), by omega⟩
      refine ⟨_, _, rfl, rfl, .inr ⟨by decide, by decide⟩, ?_⟩
      refine .inl ⟨_, rfl, _, _, rfl, rfl, (by decide : (0 : Int) < 2147483399), ?_⟩
      have r0 := fmod_in (x := z / 13 * 40692) (l := 2147483399) (by decide)
      dsimp only
      generalize z / 13 * 40692 % 2147483399 = u at r0 ⊢
      refine ⟨_, _, rfl, rfl, wide_div (by decide) (b := 100) (by decide) (by decide) (by decide), ?_⟩
      obtain ⟨d, ed⟩ : ∃ d : Nat, u / 32 % (m : Nat) = (d : Nat) := ⟨(u / 32 % (m : Nat)).toNat, by have := (fmod_in (x := u / 32) l0).1; omega⟩
      have hd := (fmod_in (x := u / 32) l0).2
      refine ⟨_, rfl, _, _, rfl, rfl, l0, ?_⟩
      (try dsimp only)
      rw [ed] at hd ⊢
      exact k _ d (by omega) Off.set ⟨_, _, upd_same, x0, z0.1, by omega⟩
      skip
end
end K54

namespace K54
open PySem L2 Wm TL Dv De
section
variable {P : Program} {w : World} {K : PySem.W.Frag} {mg : Str → Option Value} {base : Heap}
theorem dig_log {d : Nat} (h : 1 ≤ d ∧ d ≤ 9) : ((d : Int)).natAbs.log2 < 1920 := by
  rcases dig_cases h with e | e | e | e | e | e | e | e | e <;> subst e <;> decide +kernel
theorem sum_snoc (ds : List Nat) (d : Nat) : (ds ++ [d]).sum = ds.sum + d := by
  rw [List.sum_append]
  simp
theorem len_snoc (ds : List Nat) (d : Nat) : (ds ++ [d]).length = ds.length + 1 := by simp
theorem dig_snoc {ds : List Nat} {d : Nat} (h : ∀ y ∈ ds, 1 ≤ y ∧ y ≤ 9) (g : 1 ≤ d ∧ d ≤ 9) : ∀ y ∈ ds ++ [d], 1 ≤ y ∧ y ≤ 9 := fun y m => by
  rcases List.mem_append.mp m with m | m
  · exact h y m
  · rw [List.mem_singleton.mp m]
    exact g
theorem ok_of (T : Txt K mg) : FnOk P w K mg base CX0 2 T.a_of T.d_of ["_law_bag_here", "_law_some"] (sp_of K) := by
  refine T.F_of.ok sc_of (fun vs H Q E h => ?_) (fun cdv A outer s H vs Q E hr h => ?_)
  · obtain ⟨b, l, xs, rfl, _⟩ := h
    rfl
  · obtain ⟨b, l, xs, rfl, hb, nlb, hl, ne, few, k⟩ := h
    have l0 : 0 < xs.length := by cases xs with | nil => exact absurd rfl ne | cons x t => exact Nat.succ_pos _
    refine ⟨_, (pss_one (ps_ret (pe_ix ix_list (pv 1) (pe_call (ok_take T) (hr.mono (by decide)) (by rfl) T.g_take T.F_take.kp T.b_take .nil pass0 (pa_cons (pv 0) (pa_cons (pe_callB call_len_seq (by rfl) T.z_len PySem.boot_len (pa_cons (pv 1) pa_nil)) pa_nil))) (fun _ _ => rfl)))), ?_⟩
    refine ⟨_, rfl, _, rfl, _, rfl, l, _, rfl, .inl (SqL.of hl), b, xs.length, rfl, hb, l0, by omega, fun H' d hd bu hb' => ?_⟩
    have hl' := bu _ _ nlb hl
    obtain ⟨v, ev⟩ : ∃ v, xs[d]? = some v := ⟨_, List.getElem?_eq_getElem hd⟩
    exact ⟨l, _, _, _, rfl, rfl, SqL.of hl', atI_nat ev, k _ v (List.mem_of_getElem? ev) bu hb'⟩
theorem ok_number (T : Txt K mg) : FnOk P w K mg base CX0 2 T.a_number T.d_number ["_law_bag_here"] (sp_number K) := by
  refine T.F_number.ok sc_number (fun vs H Q E h => ?_) (fun cdv A outer s H vs Q E hr h => ?_)
  · obtain ⟨b, rfl, _⟩ := h
    rfl
  · obtain ⟨b, rfl, hb, k⟩ := h
    refine ⟨_, (pss_cons (ps_par3 (i := 1) (j := 2) (l := 3) rfl sc_number.nd rfl rfl rfl (by decide) (by decide) (by decide) rfl rfl rfl (pa_cons (pe_op op_add pe_int (pe_call (ok_take T) (hr.mono (by decide)) (by rfl) T.g_take T.F_take.kp T.b_take .nil pass0 (pa_cons (pv 0) (pa_cons pe_int pa_nil)))) (pa_cons pe_int (pa_cons pe_str pa_nil))) rfl)
      (pss_cons (ps_for PassesOwn.never rfl (pi_range1 (by rfl) T.z_range (pa_cons (pv 1) pa_nil)) (pg_name (i := 4) sc_number.nd rfl (Or.inl rfl))
        (pss_cons (ps_set (i := 5) sc_number.nd rfl (Or.inl rfl) (pe_op op_add pe_int (pe_call (ok_take T) (hr.mono (by decide)) (by rfl) T.g_take T.F_take.kp T.b_take .nil pass0 (pa_cons (pv 0) (pa_cons (pe_callB (call_min2 rfl) (by rfl) T.z_min (by decide +kernel) (pa_cons pe_int (pa_cons (pe_op op_sub (pe_op op_sub pe_int (pv 2)) (pe_op op_sub (pe_op op_sub (pv 1) (pv 4)) pe_int)) pa_nil))) pa_nil)))))
        (pss_cons (ps_set (i := 2) sc_number.nd rfl (Or.inl rfl) (pe_op op_add (pv 2) (pv 5)))
        (pss_one (ps_set (i := 3) sc_number.nd rfl (Or.inl rfl) (pe_op op_add_str (pv 3) (pe_callTy call_str_int (by rfl) T.z_str (by decide +kernel) (pa_cons (pv 5) pa_nil))))))))
      (pss_one (ps_ret (pv 3))))), ?_⟩
    refine ⟨_, rfl, b, 4, rfl, hb, by decide, by decide, fun H1 d0 hd0 bu1 hb1 => ?_⟩
    refine ⟨_, _, rfl, rfl, _, _, _, rfl, ?_⟩
    obtain ⟨many, em, m1, m4⟩ : ∃ many : Nat, (1 : Int) + (d0 : Nat) = (many : Nat) ∧ 1 ≤ many ∧ many ≤ 4 := ⟨1 + d0, by omega, by omega, by omega⟩
    try dsimp only
    rw [em]
    refine ⟨_, rfl, _, rfl, by omega, by omega, ?_⟩
    rw [Int.toNat_natCast]
    refine for_range (fun i σ H' => ∃ (ds : List Nat) (v4 v5 : Option V), σ = [some (.ref b), some (.int (many : Nat)), some (.int (ds.sum : Nat)), some (.str (numS ds)), v4, v5] ∧
      ds.length = i ∧ (∀ d ∈ ds, 1 ≤ d ∧ d ≤ 9) ∧ ds.sum + (many - i) ≤ 24 ∧ Bk H' b ∧ Off b H H')
      ⟨[], none, none, by rw [numS_nil]; rfl, rfl, fun _ m => absurd m (List.not_mem_nil), by show 0 + (many - 0) ≤ 24; omega, hb1, bu1⟩ (fun i σ H' hi hP => ?_) (fun σ H' hP => ?_)
    · obtain ⟨ds, v4, v5, rfl, el, hd, hs, hb2, bu2⟩ := hP
      refine ⟨_, rfl, _, rfl, _, _, rfl, rfl, _, rfl, _, rfl, _, _, rfl, rfl, _, _, rfl, rfl, _, _, rfl, rfl, _, _, rfl, ?_⟩
      (try dsimp only)
      obtain ⟨lim, el2, l1, l9, ls⟩ : ∃ lim : Nat, (if (24 : Int) - (ds.sum : Nat) - ((many : Nat) - (0 + (i : Nat)) - 1) < 9 then (24 : Int) - (ds.sum : Nat) - ((many : Nat) - (0 + (i : Nat)) - 1) else 9) = (lim : Nat) ∧ 1 ≤ lim ∧ lim ≤ 9 ∧ lim ≤ 24 - ds.sum - (many - i - 1) := by
        split
        · exact ⟨24 - ds.sum - (many - i - 1), by omega, by omega, by omega, Nat.le_refl _⟩
        · exact ⟨9, rfl, by omega, by omega, by omega⟩
      rw [el2]
      refine ⟨b, lim, rfl, hb2, by omega, by omega, fun H3 g hg bu3 hb3 => ?_⟩
      refine ⟨_, _, rfl, rfl, ?_⟩
      obtain ⟨d, ed, hd9, hds⟩ : ∃ d : Nat, (1 : Int) + (g : Nat) = (d : Nat) ∧ (1 ≤ d ∧ d ≤ 9) ∧ ds.sum + d + (many - i - 1) ≤ 24 := ⟨1 + g, by omega, by omega, by omega⟩
      (try dsimp only)
      rw [ed]
      refine ⟨_, rfl, _, rfl, _, _, rfl, rfl, ?_⟩
      refine ⟨_, rfl, _, rfl, _, rfl, dig_log hd9, _, _, rfl, rfl, ?_, ?_⟩
      · rw [dig_str hd9, numS_len, numS_len]
        exact Nat.le_of_lt (small1000 (by show ds.length + 1 ≤ 1000; omega))
      rw [dig_str hd9, numS_app]
      have e3 : ((ds.sum : Nat) : Int) + (d : Nat) = ((ds ++ [d]).sum : Nat) := by rw [sum_snoc]; omega
      (try dsimp only)
      rw [e3]
      exact ⟨ds ++ [d], _, _, rfl, by rw [len_snoc, el], dig_snoc hd hd9, by rw [sum_snoc]; omega, hb3, bu2.trans bu3⟩
    · obtain ⟨ds, v4, v5, rfl, el, hd, hs, hb2, bu2⟩ := hP
      exact ⟨_, rfl, k _ ds ⟨by omega, by omega, hd, by omega⟩ bu2 hb2⟩
end
end K54

namespace K54
open PySem L2 Wm TL Dv De
section
variable {P : Program} {w : World} {K : PySem.W.Frag} {mg : Str → Option Value} {base : Heap}
theorem inV_sgs {c : Nat} {x : Str} : inV (.str ⟨#[c]⟩) (Si2.sgs x) = decide (c ∈ x.cps.toList) := by
  rw [Bool.eq_iff_iff, decide_eq_true_iff]
  unfold inV Si2.sgs
  rw [List.any_map, List.any_eq_true]
  constructor
  · rintro ⟨d, m, e⟩
    have e2 : (⟨#[d]⟩ : Str) = ⟨#[c]⟩ := by
      have e : ((⟨#[d]⟩ : Str) == ⟨#[c]⟩) = true := e
      exact eq_of_beq e
    cases e2
    exact m
  · intro m
    exact ⟨c, m, beq_self_eq_true (⟨#[c]⟩ : Str)⟩
theorem sgs_flat (x : Str) : (Si2.sgs x).all flatV = true := by
  unfold Si2.sgs
  rw [List.all_map, List.all_eq_true]
  intro c _
  rfl
theorem ok_lis_whole (T : Txt K mg) : FnOk P w K mg base CX0 1 T.a_lis_whole T.d_lis_whole ["_law_thing", "_law_most"] (sp_lis_whole K) := by
  refine T.F_lis_whole.ok sc_lis_whole (fun vs H Q E h => ?_) (fun cdv A outer s H vs Q E hr h => ?_)
  · obtain ⟨v, d, N, k, rfl, _⟩ := h
    rfl
  · obtain ⟨v, d, N, mo, rfl, hd, k⟩ := h
    obtain ⟨t, ty, I⟩ := isi_en hd
    refine ⟨_, (pss_one (ps_ret (pe_and (pe_callB call_isi (by rfl) T.z_isinstance (by decide +kernel) (pa_cons (pv 0) (pa_cons (pe_bltn (v := V.ty "int") (by rfl) T.z_int (by decide +kernel) rfl) pa_nil))) (pe_and (pe_not (pe_callB call_isi (by rfl) T.z_isinstance (by decide +kernel) (pa_cons (pv 0) (pa_cons (pe_bltn (v := V.ty "bool") (by rfl) T.z_bool (by decide +kernel) rfl) pa_nil)))) (pe_one (pe_chain op_le op_le pe_int (pv 0) (pv 1))))))), ?_⟩
    refine ⟨_, rfl, _, _, _, _, intB d, rfl, .ty "int", ty, I.int, intB d, rfl, ?_⟩
    cases e : intB d with
    | false =>
      have e2 : wbD d 0 mo = false := by cases d <;> first | rfl | cases e
      rw [e2] at k
      exact iteF k
    | true =>
      refine iteT ⟨_, rfl, _, _, _, _, _, rfl, .ty "bool", ty, I.bool, _, rfl, ?_⟩
      cases hd with
      | bl b => exact ⟨_, rfl, iteF k⟩
      | int i =>
        have k : Q (.bl (decide ((0 : Int) ≤ i) && decide (i ≤ mo))) H := k
        refine ⟨_, rfl, iteT ⟨_, rfl, _, _, rfl, rfl, _, rfl, ?_⟩⟩
        cases e : decide ((0 : Int) ≤ i) with
        | true =>
          rw [e] at k
          exact iteT ⟨_, rfl, _, _, rfl, rfl, k⟩
        | false =>
          rw [e] at k
          exact iteF k
      | _ => cases e
theorem ok_is_row (T : Txt K mg) : FnOk P w K mg base CX0 2 T.a_is_row T.d_is_row ["_law_thing", "_law_least", "_law_most", "_law_top"] (sp_is_row K) := by
  refine T.F_is_row.ok sc_is_row (fun vs H Q E h => ?_) (fun cdv A outer s H vs Q E hr h => ?_)
  · obtain ⟨v, d, N, lo, hi, k, rfl, _⟩ := h
    rfl
  · obtain ⟨v, d, N, lo, hi, mo, rfl, hd, lh, k⟩ := h
    refine ⟨_, (pss_cons (ps_if (PW.pt (pw_or (pt_not (pt_val (pe_callB call_isiT (by rfl) T.z_isinstance (by decide +kernel) (pa_cons (pv 0) (pa_cons (pe_tup (pa_cons (pe_bltn (v := V.ty "list") (by rfl) T.z_list (by decide +kernel) rfl) (pa_cons (pe_bltn (v := V.ty "tuple") (by rfl) T.z_tuple (by decide +kernel) rfl) pa_nil))) pa_nil))))) (pw_or1 (pt_not (pt_chain op_le op_le (pv 1) (pe_callB call_len_seq (by rfl) T.z_len PySem.boot_len (pa_cons (pv 0) pa_nil)) (pv 2))))))
        (pss_one (ps_ret pe_bl))
        pss_nil)
      (pss_one (ps_ret (pe_callB (cr_all rfl) (by rfl) T.z_all (by decide +kernel) (pa_cons (pe_lc (own := [("_law_each", 4)]) (g := gName 4) (tt := tYes) rfl sc_is_row.nd (Kd.pi_seq (pv 0)) (blkOk_by (own := [("_law_each", 4)]) (N := nm_is_row) (sc := (defScope s_is_row)) (by decide +kernel)) (fun _ _ _ _ _ => pg_name (i := 4) sc_is_row.nd rfl (Or.inl rfl)) (fun _ _ _ _ _ => pts_nil) (fun _ _ _ _ _ => (pe_call (ok_lis_whole T) (hr.mono (by decide)) (by rfl) T.g_lis_whole T.F_lis_whole.kp T.b_lis_whole .nil pass0 (pa_cons (pv 4) (pa_cons (pv 3) pa_nil))))) pa_nil))))), ?_⟩
    refine ⟨_, rfl, by show 2 ≤ sizeLine; decide, fun t2 ht => ?_⟩
    have s1 : Same H (upd H t2 (.tup [.ty "list", .ty "tuple"])) := same_new ht
    obtain ⟨t, ty, I⟩ := isi_en (hd.ks s1)
    refine ⟨_, t2, _, _, _, seqB d, rfl, upd_same, .cons (.ty "list") (.cons (.ty "tuple") .nil), ty, kitAny_cons (b := lstB d) I.lst (fun e => kitAny_cons (b := tupB d) I.tup (fun e2 => ?_) (fun e2 => ?_)) (fun e => ?_), ?_⟩
    · rw [seq_or, e, e2]
      rfl
    · rw [seq_or, e, e2]
      rfl
    · rw [seq_or, e]
      rfl
    generalize upd H t2 (.tup [.ty "list", .ty "tuple"]) = H1 at *
    refine ⟨_, rfl, ?_⟩
    cases e : seqB d with
    | false =>
      rw [row_no e] at k
      exact iteT (iteT (k _ s1))
    | true =>
      obtain ⟨p, xs, t, rfl, hS, hds, _⟩ := seq_en (hd.ks s1) e
      have lx := hds.len
      refine iteF ⟨_, rfl, _, rfl, p, _, rfl, hS.sq, _, _, rfl, rfl, _, rfl, ?_⟩
      rw [row_en e, lx.symm] at k
      rw [dec_nat]
      cases c1 : decide (lo ≤ xs.length) with
      | false =>
        rw [c1] at k
        exact iteF ⟨false, rfl, iteT (k _ s1)⟩
      | true =>
        refine iteT ⟨_, rfl, _, _, rfl, rfl, _, rfl, ?_⟩
        rw [dec_nat]
        cases c2 : decide (xs.length ≤ hi) with
        | false =>
          rw [c1, c2] at k
          exact iteT (k _ s1)
        | true =>
          rw [c1, c2] at k
          have c3 := of_decide_eq_true c2
          refine iteF ?_
          refine ⟨_, rfl, p, xs, t, rfl, hS, fun J GG w hG D hD => ?_⟩
          refine Lm.lc_map (K := K) w (fun i y _ => ∃ z, (itm d)[i]? = some z ∧ y = .bl (wbD z 0 mo)) (fun _ _ _ _ h _ => h) hD (by omega) (fun H' s => hG _ (hS.keep s)) (fun i x H' hi hx sm Q2 Z q => ?_) (fun H2 ys s2 hy ly hR => ?_)
          · obtain ⟨z, hz, dz⟩ := hds.at hx
            exact ⟨rfl, yesT ⟨_, rfl, _, rfl, x, z, N, mo, rfl, dz.ks sm, q _ _ (Same.refl _) ⟨z, hz, rfl⟩⟩⟩
          · rw [bools (g := fun z => wbD z 0 mo) (by omega) hR] at hy
            refine ⟨D, _, rfl, SqL.of hy, ?_⟩
            rw [all_id]
            exact k _ (s1.trans s2)
theorem ok_lis_number (T : Txt K mg) : FnOk P w K mg base CX0 1 T.a_lis_number T.d_lis_number ["_law_thing"] (sp_lis_number K) := by
  refine T.F_lis_number.ok sc_lis_number (fun vs H Q E h => ?_) (fun cdv A outer s H vs Q E hr h => ?_)
  · obtain ⟨v, d, N, rfl, _⟩ := h
    rfl
  · obtain ⟨v, d, N, rfl, hd, tx, kx⟩ := h
    obtain ⟨ty0, ty, I⟩ := isi_en hd
    refine ⟨_, (pss_cons (ps_if (PW.pt (pw_or (pt_not (pt_val (pe_callB call_isi (by rfl) T.z_isinstance (by decide +kernel) (pa_cons (pv 0) (pa_cons (pe_bltn (v := V.ty "str") (by rfl) T.z_str (by decide +kernel) rfl) pa_nil))))) (pw_or1 (pt_not (pt_chain op_le op_le pe_int (pe_callB call_len_str (by rfl) T.z_len PySem.boot_len (pa_cons (pv 0) pa_nil)) pe_int)))))
        (pss_one (ps_ret pe_bl))
        pss_nil)
      (pss_cons (ps_if (pt_not (pt_val (pe_callB (cr_all rfl) (by rfl) T.z_all (by decide +kernel) (pa_cons (pe_lc (own := [("_law_sign", 1)]) (g := gName 1) (tt := tYes) rfl sc_lis_number.nd (pi_str (pv 0)) (blkOk_by (own := [("_law_sign", 1)]) (N := nm_lis_number) (sc := (defScope s_lis_number)) (by decide +kernel)) (fun _ _ _ _ _ => pg_name (i := 1) sc_lis_number.nd rfl (Or.inl rfl)) (fun _ _ _ _ _ => pts_nil) (fun _ _ _ _ _ => (pe_cmpR (show OpR _ _ (rIn K false) from op_in_seq) (pv 1) (pe_callTy (St2.call_listS rfl) (by rfl) T.z_list (by decide +kernel) (pa_cons pe_str pa_nil)) rfl))) pa_nil))))
        (pss_one (ps_ret pe_bl))
        pss_nil)
      (pss_one (ps_ret (pe_cmpR op_le (pe_callB (cr_sum rfl) (by rfl) T.z_sum (by decide +kernel) (pa_cons (pe_lc (own := [("_law_sign", 1)]) (g := gName 1) (tt := tYes) rfl sc_lis_number.nd (pi_str (pv 0)) (blkOk_by (own := [("_law_sign", 1)]) (N := nm_lis_number) (sc := (defScope s_lis_number)) (by decide +kernel)) (fun _ _ _ _ _ => pg_name (i := 1) sc_lis_number.nd rfl (Or.inl rfl)) (fun _ _ _ _ _ => pts_nil) (fun _ _ _ _ _ => (pe_callTy call_int_str (by rfl) T.z_int (by decide +kernel) (pa_cons (pv 1) pa_nil)))) pa_nil)) pe_int (nomark _)))))), ?_⟩
    refine ⟨_, rfl, _, _, _, _, stB d, rfl, .ty "str", ty, I.str, stB d, rfl, ?_⟩
    cases e0 : stB d with
    | false =>
      rw [num_no e0] at kx
      refine iteT ?_
      refine iteT ?_
      exact kx _ (Same.refl _)
    | true =>
    refine iteF ?_
    obtain ⟨t, rfl, rfl⟩ : ∃ t, v = .str t ∧ d = .str t := by
      cases hd with
      | str x => exact ⟨x, rfl, rfl⟩
      | _ => cases e0
    have hz : t.length ≤ 100000 := tx t rfl
    have k : ∀ H' b, Same H H' → (b = true ↔ IsNum t) → Q (.bl b) H' := fun H' b s e => by
      have e2 : b = numB (.str t) := Bool.eq_iff_iff.mpr (e.trans num_str.symm)
      rw [e2]
      exact kx _ s
    have hl : t.length = (tl t).length := len_tl t
    have numlen : IsNum t → 1 ≤ t.length ∧ t.length ≤ 4 := fun ⟨ds, N, e⟩ => by
      rw [e, numS_len]
      exact ⟨N.pos, N.len⟩
    refine ⟨_, rfl, _, rfl, small_len hz, _, _, rfl, rfl, _, rfl, ?_⟩
    refine ite2 (fun c1 => ?_) (fun c1 => ?_)
    case refine_2 =>
      have c1' : ¬ (1 : Int) ≤ (t.length : Nat) := fun z => c1 (decide_eq_true z)
      refine ⟨false, rfl, iteT ?_⟩
      exact k _ _ (Same.refl _) ⟨fun z => (by cases z), fun z => absurd (numlen z).1 (by omega)⟩
    have c1' : (1 : Int) ≤ (t.length : Nat) := of_decide_eq_true c1
    refine ⟨_, _, rfl, rfl, _, rfl, ?_⟩
    by_cases c2 : ((t.length : Nat) : Int) ≤ 4
    case neg =>
      rw [decide_eq_false c2]
      refine iteT ?_
      exact k _ _ (Same.refl _) ⟨fun z => (by cases z), fun z => absurd (numlen z).2 (by omega)⟩
    rw [decide_eq_true c2]
    refine iteF ?_
    refine ⟨_, rfl, _, rfl, fun D hD => ?_⟩
    have hsz : t.cps.size = (tl t).length := hl
    refine lc_it walk_str (fun i H' => Same H H' ∧ H' D = some (.lst (((letters t).take i).map V.bl))) ⟨same_new hD, upd_same⟩ (fun _ _ _ _ => trivial) (fun i x H1 H' hi hP hY => ?_) (fun H1 hP => ?_)
    · obtain ⟨sm, hL⟩ := hP
      obtain ⟨rfl, c, hc, rfl⟩ := hY
      have hc2 : (letters t)[i]? = some (decide (c ∈ ("123456789" : Str).cps.toList)) := by
        unfold letters
        rw [List.getElem?_map, cps_at hc]
        rfl
      refine ⟨rfl, yesT ?_⟩
      refine ⟨_, rfl, _, rfl, by decide +kernel, fun q hq => ?_⟩
      have sq := same_new (o := .lst (Si2.sgs "123456789")) hq
      refine ⟨q, _, rfl, .inl (SqL.of upd_same), rfl, sgs_flat _, ?_⟩
      rw [show (if false = true then !inV (V.str ⟨#[c]⟩) (Si2.sgs "123456789") else inV (V.str ⟨#[c]⟩) (Si2.sgs "123456789")) = decide (c ∈ ("123456789" : Str).cps.toList) from inV_sgs]
      refine ⟨_, sq _ _ hL, by rw [List.length_map, List.length_take]; exact small1000 (by omega), ?_⟩
      refine ⟨same_mut (sm.trans sq) hD, ?_⟩
      rw [upd_same, take_succ_map _ hc2]
    · obtain ⟨sm, hL⟩ := hP
      have ell : (letters t).length = t.cps.size := by unfold letters; rw [List.length_map, hsz]
      rw [← ell, List.take_length] at hL
      refine ⟨D, letters t, rfl, SqL.of hL, _, rfl, ?_⟩
      by_cases c3 : (letters t).all id = true
      case neg =>
        rw [Bool.not_eq_true] at c3
        rw [c3]
        refine iteT ?_
        refine k _ _ sm ⟨fun z => (by cases z), fun ⟨ds, N, e⟩ => ?_⟩
        have q := letters_all.mpr (by rw [e]; exact num_codes N.dig : ∀ c ∈ tl t, c ∈ ("123456789" : Str).cps.toList)
        rw [c3] at q
        cases q
      rw [c3]
      refine iteF ?_
      obtain ⟨ds, dig, et⟩ := dig_text t (letters_all.mp c3)
      subst et
      rw [numS_len] at c1' c2
      refine ⟨_, rfl, _, rfl, fun D2 hD2 => ?_⟩
      refine lc_it walk_str (fun i H' => Same H H' ∧ H' D2 = some (.lst ((ds.take i).map fun (d : Nat) => V.int (d : Int)))) ⟨sm.trans (same_new hD2), upd_same⟩ (fun _ _ _ _ => trivial) (fun i x H2 H' hi hP hY => ?_) (fun H2 hP => ?_)
      · obtain ⟨sm2, hl2⟩ := hP
        obtain ⟨rfl, c, hc, rfl⟩ := hY
        rw [numS_size] at hi
        rw [numS_at ds i hi] at hc
        have hc' := (Option.some.inj hc).symm
        subst hc'
        refine ⟨rfl, yesT ?_⟩
        refine ⟨_, rfl, _, _, rfl, dig_int (dig _ (List.getElem_mem hi)), (by show 1 ≤ 640; decide), _, hl2, by rw [List.length_map, List.length_take]; exact small1000 (by omega), ?_⟩
        refine ⟨same_mut sm2 (sm.free hD2), ?_⟩
        rw [upd_same, take_succ_map _ (List.getElem?_eq_getElem hi)]
      · obtain ⟨sm2, hl2⟩ := hP
        rw [numS_size, List.take_length] at hl2
        refine ⟨D2, ds.map fun (d : Nat) => (d : Int), rfl, SqL.of (by rw [hl2, List.map_map]; rfl), _, _, rfl, rfl, ?_⟩
        rw [sum_cast]
        refine k _ _ sm2 ?_
        rw [isnum_dig]
        constructor
        · intro z
          have z' : ((ds.sum : Nat) : Int) ≤ 24 := of_decide_eq_true z
          exact ⟨by omega, by omega, dig, by omega⟩
        · intro N
          exact decide_eq_true (show ((ds.sum : Nat) : Int) ≤ 24 by have := N.sum; omega)
end
end K54

namespace K54
open PySem L2 Wm TL Dv De
section
variable {P : Program} {w : World} {K : PySem.W.Frag} {mg : Str → Option Value} {base : Heap}
theorem pair_row {d : PyData} (e : moveB d = true) : (rowB d 2 2 && (itm d).all fun x => wbD x 0 8) = true := by
  obtain ⟨s, x, ex, l1, l2⟩ := move_of e
  have ex : itm d = nD [x.1, x.2] := PyData.tuple.inj ex
  rw [row_of s ex (by simp) (by simp), ex]
  exact all_nats (k := 8) fun n m => by
    rcases List.mem_cons.mp m with rfl | m
    · omega
    · rw [List.mem_singleton] at m
      omega
theorem cnt_nd {zs : List Int} {ds : List PyData} (e : ds.map intD = zs) : (ds.all fun z => decide (V.int (zs.count (intD z) : Nat) = V.int 1)) = decide zs.Nodup := by
  rw [Bool.eq_iff_iff, List.all_eq_true, decide_eq_true_iff, List.nodup_iff_count]
  constructor
  · intro h a
    by_cases m : a ∈ zs
    · rw [← e] at m
      obtain ⟨d, md, rfl⟩ := List.mem_map.mp m
      have := V.int.inj (of_decide_eq_true (h d md))
      omega
    · rw [List.count_eq_zero.mpr m]
      exact Nat.zero_le _
  · intro h d md
    have h1 := h (intD d)
    have h2 : 0 < zs.count (intD d) := List.count_pos_iff.mpr (by rw [← e]; exact List.mem_map_of_mem md)
    rw [show zs.count (intD d) = 1 by omega]
    rfl
theorem order_row {o : PyData} (e : orderB o = true) : (rowB o 0 6 && (itm o).all fun x => wbD x 0 5) = true := by
  obtain ⟨so, r⟩ := Bool.and_eq_true_iff.mp e
  obtain ⟨ro, nd⟩ := Bool.and_eq_true_iff.mp r
  obtain ⟨ns, en, l5⟩ := nats_all (k := 5) ro
  have nd := of_decide_eq_true nd
  rw [en, nD_int] at nd
  have l6 := nodup_le 6 (nodup_nat nd) fun k m => by
    have := l5 k m
    omega
  rw [row_of so en (Nat.zero_le _) l6]
  exact ro
theorem row_order {o : PyData} (e : (rowB o 0 6 && (itm o).all fun x => wbD x 0 5) = true) : orderB o = decide ((itm o).map intD).Nodup := by
  obtain ⟨a, b⟩ := Bool.and_eq_true_iff.mp e
  unfold orderB
  rw [(row_seq a).1, show (itm o).all crewB = true from b]
  rfl
theorem ok_is_pair (T : Txt K mg) : FnOk P w K mg base CX0 3 T.a_is_pair T.d_is_pair ["_law_thing"] (sp_is_pair K) := by
  refine T.F_is_pair.ok sc_is_pair (fun vs H Q E h => ?_) (fun cdv A outer s H vs Q E hr h => ?_)
  · obtain ⟨v, d, N, rfl, _⟩ := h
    rfl
  · obtain ⟨v, d, N, rfl, hd, k⟩ := h
    refine ⟨_, (pss_one (ps_ret (pe_and (pe_call (ok_is_row T) (hr.mono (by decide)) (by rfl) T.g_is_row T.F_is_row.kp T.b_is_row .nil pass0 (pa_cons (pv 0) (pa_cons pe_int (pa_cons pe_int (pa_cons pe_int pa_nil))))) (pe_one (pe_cmpR op_le (pe_ix (show IxR _ (Dz.rIxLT K) from Dz.ix_lt) (pv 0) pe_int (fun _ _ => rfl)) pe_int (nomark _)))))), ?_⟩
    refine ⟨_, rfl, v, d, N, 2, 2, 8, rfl, hd, by decide, fun H1 s1 => ⟨_, rfl, ?_⟩⟩
    cases e : (rowB d 2 2 && (itm d).all fun x => wbD x 0 8) with
    | false =>
      have e2 : moveB d = false := by
        cases c : moveB d with
        | false => rfl
        | true => rw [pair_row c] at e; cases e
      rw [e2] at k
      exact iteF (k _ s1)
    | true =>
      obtain ⟨r, al⟩ := Bool.and_eq_true_iff.mp e
      obtain ⟨sq, l1, l2⟩ := row_seq r
      obtain ⟨ns, en, l8⟩ := nats_all (k := 8) al
      obtain ⟨p, xs, t, rfl, hS, hds, _⟩ := seq_en (hd.ks s1) sq
      rw [en, nD_len] at l1 l2
      match ns, l1, l2 with
      | [a, b], _, _ =>
        have ek : moveB d = decide ((a : Int) ≤ 5) := by
          unfold moveB fstD sndD
          rw [r, en]
          show (true && ((decide ((0 : Int) ≤ (a : Nat)) && decide ((a : Int) ≤ 5)) && (decide ((0 : Int) ≤ (b : Nat)) && decide ((b : Int) ≤ 8)))) = _
          have := l8 b (by simp)
          rw [decide_eq_true (show (0 : Int) ≤ (a : Nat) by omega), decide_eq_true (show (0 : Int) ≤ (b : Nat) by omega), decide_eq_true (show ((b : Nat) : Int) ≤ 8 by omega)]
          simp
        rw [ek] at k
        rw [en] at hds
        cases hds with | cons x1 x2 =>
        cases x1
        exact iteT ⟨_, rfl, ixK (v := .int (a : Nat)) hS (atI_nat (j := 0) rfl) ⟨_, _, rfl, rfl, k _ s1⟩⟩
      | [], l, _ => exact absurd l (by simp)
      | [_], l, _ => exact absurd l (by simp)
      | _ :: _ :: _ :: _, _, l => exact absurd l (by simp)
theorem ok_fault (T : Txt K mg) : FnOk P w K mg base CX0 4 T.a_fault T.d_fault ["_law_parts_here"] (sp_fault K) := by
  refine T.F_fault.ok sc_fault (fun vs H Q E h => ?_) (fun cdv A outer s H vs Q E hr h => ?_)
  · obtain ⟨l, n, o, c, w0, m, N, rfl, _⟩ := h
    rfl
  · obtain ⟨l, n, o, c, w0, m, N, rfl, h5, tx, k⟩ := h
    obtain ⟨x1, x2, x3, x4, x5, hl, d1, d2, d3, d4, d5⟩ := h5
    refine ⟨_, (pss_cons (ps_asg (pv 0) (pg_lst rfl (pgs_cons (pg_name (i := 1) sc_fault.nd rfl (Or.inl rfl)) (pgs_cons (pg_name (i := 2) sc_fault.nd rfl (Or.inr rfl)) (pgs_cons (pg_name (i := 3) sc_fault.nd rfl (Or.inl rfl)) (pgs_cons (pg_name (i := 4) sc_fault.nd rfl (Or.inl rfl)) (pgs_cons (pg_name (i := 5) sc_fault.nd rfl (Or.inl rfl)) pgs_nil)))))))
      (pss_cons (ps_if (pt_not (pt_val (pe_call (ok_lis_number T) (hr.mono (by decide)) (by rfl) T.g_lis_number T.F_lis_number.kp T.b_lis_number .nil pass0 (pa_cons (pv 1) pa_nil))))
        (pss_one (ps_ret pe_str))
        pss_nil)
      (pss_cons (ps_if (PW.pt (pw_or (pt_not (pt_val (pe_call (ok_is_row T) (hr.mono (by decide)) (by rfl) T.g_is_row T.F_is_row.kp T.b_is_row .nil pass0 (pa_cons (pv 2) (pa_cons pe_int (pa_cons pe_int (pa_cons pe_int pa_nil))))))) (pw_or1 (pt_not (pt_val (pe_callB (cr_all rfl) (by rfl) T.z_all (by decide +kernel) (pa_cons (pe_lc (own := [("_law_crew", 6)]) (g := gName 6) (tt := tYes) rfl sc_fault.nd (Kd.pi_seq (pv 2)) (blkOk_by (own := [("_law_crew", 6)]) (N := nm_fault) (sc := (defScope s_fault)) (by decide +kernel)) (fun _ _ _ _ _ => pg_name (i := 6) sc_fault.nd rfl (Or.inl rfl)) (fun _ _ _ _ _ => pts_nil) (fun _ _ _ _ _ => (pe_cmpR op_eq (show PE _ _ (tBM K "list" (rCntI K) _ _) from pe_bm PySem.F.plainAttrs_list PySem.F.slot_list_count PySem.F.type_list_count mt_lcount (pe_callTy (call_lstS (K := K) rfl) (by rfl) T.z_list (by decide +kernel) (pa_cons (pv 2) pa_nil)) (pa_cons (pv 6) pa_nil)) pe_int (nomark _)))) pa_nil)))))))
        (pss_one (ps_ret pe_str))
        pss_nil)
      (pss_cons (ps_if (pt_not (pt_val (pe_call (ok_is_row T) (hr.mono (by decide)) (by rfl) T.g_is_row T.F_is_row.kp T.b_is_row .nil pass0 (pa_cons (pv 3) (pa_cons pe_int (pa_cons pe_int (pa_cons pe_int pa_nil)))))))
        (pss_one (ps_ret pe_str))
        pss_nil)
      (pss_cons (ps_if (pt_not (pt_val (pe_call (ok_is_row T) (hr.mono (by decide)) (by rfl) T.g_is_row T.F_is_row.kp T.b_is_row .nil pass0 (pa_cons (pv 4) (pa_cons pe_int (pa_cons pe_int (pa_cons pe_int pa_nil)))))))
        (pss_one (ps_ret pe_str))
        pss_nil)
      (pss_cons (ps_if (PW.pt (pw_or (pt_not (pt_val (pe_callB call_isiT (by rfl) T.z_isinstance (by decide +kernel) (pa_cons (pv 5) (pa_cons (pe_tup (pa_cons (pe_bltn (v := V.ty "list") (by rfl) T.z_list (by decide +kernel) rfl) (pa_cons (pe_bltn (v := V.ty "tuple") (by rfl) T.z_tuple (by decide +kernel) rfl) pa_nil))) pa_nil))))) (pw_or (pt_cmpR op_gt (pe_callB call_len_seq (by rfl) T.z_len PySem.boot_len (pa_cons (pv 5) pa_nil)) pe_int (nomark _)) (pw_or1 (pt_not (pt_val (pe_callB (cr_all rfl) (by rfl) T.z_all (by decide +kernel) (pa_cons (pe_lc (own := [("_law_pair", 7)]) (g := gName 7) (tt := tYes) rfl sc_fault.nd (Kd.pi_seq (pv 5)) (blkOk_by (own := [("_law_pair", 7)]) (N := nm_fault) (sc := (defScope s_fault)) (by decide +kernel)) (fun _ _ _ _ _ => pg_name (i := 7) sc_fault.nd rfl (Or.inl rfl)) (fun _ _ _ _ _ => pts_nil) (fun _ _ _ _ _ => (pe_call (ok_is_pair T) (hr.mono (by decide)) (by rfl) T.g_is_pair T.F_is_pair.kp T.b_is_pair .nil pass0 (pa_cons (pv 7) pa_nil)))) pa_nil))))))))
        (pss_one (ps_ret pe_str))
        pss_nil)
      (pss_one (ps_ret pe_non)))))))), ?_⟩
    refine ⟨_, rfl, l, _, rfl, SqL.of hl, rfl, _, _, rfl, _, _, rfl, _, _, rfl, _, _, rfl, _, _, rfl, rfl, ?_⟩
    have low : ∀ {z : Str} {H1 : Hp}, Same H H1 → faultW n o c w0 m = some z → Q (.str z) H1 := fun s e => by
      have := k _ s
      rw [e] at this
      exact this
    refine ⟨_, rfl, x1, n, N, rfl, d1, tx, fun H1 s1 => ⟨numB n, rfl, ?_⟩⟩
    cases b1 : numB n with
    | false => exact iteT (low s1 (by unfold faultW; rw [b1]; rfl))
    | true =>
    refine iteF ⟨_, rfl, x2, o, N, 0, 6, 5, rfl, d2.ks s1, by decide, fun H2 s2 => ⟨_, rfl, ?_⟩⟩
    have s2 := s1.trans s2
    cases b2 : (rowB o 0 6 && (itm o).all fun x => wbD x 0 5) with
    | false =>
      refine iteT (iteT (low s2 ?_))
      have e2 : orderB o = false := by
        cases c : orderB o with
        | false => rfl
        | true => rw [order_row c] at b2; cases b2
      unfold faultW
      rw [b1, e2]
      rfl
    | true =>
    refine iteF ?_
    have eo : orderB o = decide ((itm o).map intD).Nodup := row_order b2
    obtain ⟨ro, al⟩ := Bool.and_eq_true_iff.mp b2
    obtain ⟨so, _, l6⟩ := row_seq ro
    obtain ⟨po, xo, to, rfl, hO, dO, _⟩ := seq_en (d2.ks s2) so
    have lx := dO.len
    have ex := ints_of dO (show (itm o).all crewB = true from al)
    refine ⟨_, rfl, po, xo, to, rfl, hO, fun J GG w hG D hD => ?_⟩
    refine Lm.lc_map (K := K) w (fun i y _ => ∃ z, (itm o)[i]? = some z ∧ y = .bl (decide (V.int (((itm o).map intD).count (intD z) : Nat) = V.int 1))) (fun _ _ _ _ h _ => h) hD (by omega) (fun H' s => hG _ (hO.keep s)) (fun i x H' hi hx sm Q2 Z q => ?_) (fun H3 ys s3 hy ly hR => ?_)
    · rw [ex, List.getElem?_map, List.getElem?_map] at hx
      cases ez : (itm o)[i]? with
      | none => rw [ez] at hx; cases hx
      | some z =>
      rw [ez] at hx
      cases hx
      refine ⟨rfl, yesT ⟨_, rfl, po, xo, to, rfl, hO.keep sm, fun L _ hL => ⟨.inl ⟨rfl, _, SqL.of upd_same⟩, _, rfl, L, (itm o).map intD, intD z, rfl, rfl, ?_, rfl, q _ _ (same_new hL) ⟨z, ez, rfl⟩⟩⟩⟩
      rw [← ex]
      exact SqL.of upd_same
    · rw [bools (g := fun z => decide (V.int (((itm o).map intD).count (intD z) : Nat) = V.int 1)) (by omega) hR] at hy
      refine ⟨D, _, rfl, SqL.of hy, _, rfl, ?_⟩
      rw [all_id, cnt_nd rfl, ← eo]
      have s3 := s2.trans s3
      cases b2 : orderB o with
      | false => exact iteT (low s3 (by unfold faultW; rw [b1, b2]; rfl))
      | true =>
      refine iteF ⟨_, rfl, x3, c, N, 3, 3, 6, rfl, d3.ks s3, by decide, fun H4 s4 => ⟨_, rfl, ?_⟩⟩
      have s4 := s3.trans s4
      rw [show (rowB c 3 3 && (itm c).all fun x => wbD x 0 6) = countsB c from rfl]
      cases b3 : countsB c with
      | false => exact iteT (low s4 (by unfold faultW; rw [b1, b2, b3]; rfl))
      | true =>
      refine iteF ⟨_, rfl, x4, w0, N, 3, 3, 6, rfl, d4.ks s4, by decide, fun H5 s5 => ⟨_, rfl, ?_⟩⟩
      have s5 := s4.trans s5
      rw [show (rowB w0 3 3 && (itm w0).all fun x => wbD x 0 6) = countsB w0 from rfl]
      cases b4 : countsB w0 with
      | false => exact iteT (low s5 (by unfold faultW; rw [b1, b2, b3, b4]; rfl))
      | true =>
      refine iteF ⟨_, rfl, by show 2 ≤ sizeLine; decide, fun t2 ht => ?_⟩
      have s6 := s5.trans (same_new (o := .tup [.ty "list", .ty "tuple"]) ht)
      obtain ⟨t, ty, I⟩ := isi_en (d5.ks s6)
      refine ⟨_, t2, _, _, _, seqB m, rfl, upd_same, .cons (.ty "list") (.cons (.ty "tuple") .nil), ty, kitAny_cons (b := lstB m) I.lst (fun e => kitAny_cons (b := tupB m) I.tup (fun e2 => ?_) (fun e2 => ?_)) (fun e => ?_), ?_⟩
      · rw [seq_or, e, e2]
        rfl
      · rw [seq_or, e, e2]
        rfl
      · rw [seq_or, e]
        rfl
      generalize upd H5 t2 (.tup [.ty "list", .ty "tuple"]) = H6 at *
      have fl : movesB m = false → faultW n o c w0 m = some "moves" := fun e => by
        unfold faultW
        rw [b1, b2, b3, b4, e]
        rfl
      refine ⟨_, rfl, ?_⟩
      cases b5 : seqB m with
      | false => exact iteT (iteT (low s6 (fl (by unfold movesB; rw [b5]; rfl))))
      | true =>
      obtain ⟨pm, xm, tm, rfl, hM, dM, _⟩ := seq_en (d5.ks s6) b5
      have lm := dM.len
      refine iteF ⟨_, rfl, pm, _, rfl, hM.sq, _, _, rfl, rfl, _, rfl, ?_⟩
      by_cases c6 : xm.length ≤ 6
      case neg =>
        rw [decide_eq_true (by omega)]
        exact iteT (iteT (low s6 (fl (by unfold movesB; rw [b5, ← lm, decide_eq_false c6]; rfl))))
      rw [decide_eq_false (by omega)]
      refine iteF ⟨_, rfl, pm, xm, tm, rfl, hM, fun J GG w hG D hD => ?_⟩
      refine Lm.lc_map (K := K) w (fun i y _ => ∃ z, (itm m)[i]? = some z ∧ y = .bl (moveB z)) (fun _ _ _ _ h _ => h) hD (by omega) (fun H' s => hG _ (hM.keep s)) (fun i x H' hi hx sm Q2 Z q => ?_) (fun H7 ys s7 hy ly hR => ?_)
      · obtain ⟨z, hz, dz⟩ := dM.at hx
        exact ⟨rfl, yesT ⟨_, rfl, x, z, N, rfl, dz.ks sm, fun H3 s3 => q _ _ s3 ⟨z, hz, rfl⟩⟩⟩
      · rw [bools (g := moveB) (by omega) hR] at hy
        refine ⟨D, _, rfl, SqL.of hy, _, rfl, ?_⟩
        rw [all_id]
        have s7 := s6.trans s7
        have em : movesB m = (itm m).all moveB := by
          unfold movesB
          rw [b5, ← lm, decide_eq_true c6]
          rfl
        cases b6 : (itm m).all moveB with
        | false => exact iteT (low s7 (fl (em.trans b6)))
        | true =>
          refine iteF ?_
          have e := k _ s7
          rw [show faultW n o c w0 m = none by unfold faultW; rw [b1, b2, b3, b4, em, b6]; rfl] at e
          exact e
end
end K54

namespace K54
open PySem L2 Wm TL Dv De
section
variable {P : Program} {w : World} {K : PySem.W.Frag} {mg : Str → Option Value} {base : Heap}
theorem mg_int {n w : Nat} {i : Int} (h : i.natAbs < 1000000) : Mg n w (.int i) :=
  let t := tk_show (Tk.int h)
  ⟨t.1, t.2.2.1, by simp only [PyData.depth]; omega, by simp only [PyData.bulk]; omega⟩
theorem mg_str {n w : Nat} {t : Str} (h : t.cps.toList.all (fun c => decide (c < 16 ^ 8)) = true) (l : t.cps.size ≤ w) : Mg n w (.str t) :=
  ⟨by simp only [PyData.showable], by simp only [PyData.leavesShort]; exact h, by simp only [PyData.depth]; omega, by simp only [PyData.bulk]; exact l⟩
theorem mg_num {n w : Nat} {ds : List Nat} (N : Num ds) (l : 4 ≤ w) : Mg n w (.str (numS ds)) := mg_str (by
  refine List.all_eq_true.mpr fun c m => ?_
  have q := num_codes N.dig c m
  refine decide_eq_true ?_
  have e : ∀ c ∈ ("123456789" : Str).cps.toList, c < 16 ^ 8 := by decide +kernel
  exact e c q) (by rw [numS_size]; have := N.len; omega)
theorem mg_all {n w k : Nat} : ∀ {ds : List PyData}, (∀ d ∈ ds, Mg n w d) → ds.length ≤ k → PyData.showableAll ds = true ∧ PyData.leavesShortAll 13 ds = true ∧ PyData.depthAll ds ≤ n ∧ PyData.bulkAll ds ≤ k * (w + 1)
  | [], _, _ => by simp only [PyData.showableAll, PyData.leavesShortAll, PyData.depthAll, PyData.bulkAll]; exact ⟨trivial, trivial, Nat.zero_le _, Nat.zero_le _⟩
  | d :: ds, h, l => by
    cases k with
    | zero => simp at l
    | succ k =>
      have i := h d List.mem_cons_self
      obtain ⟨a, b, c, e⟩ := mg_all (k := k) (fun x m => h x (List.mem_cons_of_mem _ m)) (by simpa using l)
      simp only [PyData.showableAll, PyData.leavesShortAll, PyData.depthAll, PyData.bulkAll, Bool.and_eq_true]
      have h1 := i.dp
      have h2 := i.bk
      refine ⟨⟨i.sh, a⟩, ⟨i.ls, b⟩, by omega, ?_⟩
      rw [Nat.succ_mul]
      omega
theorem mg_lst {n w k : Nat} {ds : List PyData} (h : ∀ d ∈ ds, Mg n w d) (l : ds.length ≤ k) : Mg (n + 1) (k * (w + 1)) (.list ds) := by
  obtain ⟨a, b, c, e⟩ := mg_all h l
  exact ⟨by simp only [PyData.showable]; exact a, by simp only [PyData.leavesShort]; exact b, by simp only [PyData.depth]; omega, by simp only [PyData.bulk]; exact e⟩
theorem mg_tup {n w k : Nat} {ds : List PyData} (h : ∀ d ∈ ds, Mg n w d) (l : ds.length ≤ k) : Mg (n + 1) (k * (w + 1)) (.tuple ds) := by
  obtain ⟨a, b, c, e⟩ := mg_all h l
  exact ⟨by simp only [PyData.showable]; exact a, by simp only [PyData.leavesShort]; exact b, by simp only [PyData.depth]; omega, by simp only [PyData.bulk]; exact e⟩
theorem Mg.mono {n w n2 w2 : Nat} {d : PyData} (h : Mg n w d) (a : n ≤ n2) (b : w ≤ w2) : Mg n2 w2 d := ⟨h.sh, h.ls, Nat.le_trans h.dp a, Nat.le_trans h.bk b⟩
theorem all_len : ∀ ds : List PyData, ds.length ≤ PyData.bulkAll ds
  | [] => Nat.zero_le _
  | d :: ds => by
    have := all_len ds
    simp only [PyData.bulkAll, List.length_cons]
    omega
theorem Mg.itm {n w : Nat} {d : PyData} (h : Mg n w d) : (itm d).length ≤ w := by
  have b := h.bk
  cases d with
  | list xs => have := all_len xs; simp only [PyData.bulk] at b; exact Nat.le_trans this b
  | tuple xs => have := all_len xs; simp only [PyData.bulk] at b; exact Nat.le_trans this b
  | _ => exact Nat.zero_le _
theorem Mg.tx {n w : Nat} {d : PyData} (h : Mg n w d) (l : w ≤ 100000) : TxOk d := fun t e => by
  have b := h.bk
  rw [e] at b
  simp only [PyData.bulk] at b
  exact Nat.le_trans (show t.length ≤ w from b) l
theorem Mg.fits {n w : Nat} {d : PyData} (h : Mg n w d) (l : w ≤ 1000000) : d.shown.length ≤ sizeLine := PyData.shown_fits_bulk (B := 13) (by decide) (by decide) h.ls (Nat.le_trans h.bk (Nat.le_trans l (by decide)))
theorem mg_nD {ns : List Nat} (l9 : ∀ n ∈ ns, n ≤ 9) : ∀ d ∈ nD ns, Mg 0 0 d := fun d m => by
  obtain ⟨n, hn, rfl⟩ := List.mem_map.mp m
  have := l9 n hn
  exact mg_int (by omega)
theorem mg_seq {n w k : Nat} {d : PyData} (s : seqB d = true) (h : ∀ x ∈ itm d, Mg n w x) (l : (itm d).length ≤ k) : Mg (n + 1) (k * (w + 1)) d := by
  cases d with
  | list xs => exact mg_lst h l
  | tuple xs => exact mg_tup h l
  | _ => cases s
theorem card_mg {q : Cd} (ok : CdOk q) : Mg 3 100 (showD q) := by
  have l6 := ord_len ok
  have m6 := ok.m6
  have i6 : ∀ {ns : List Nat}, (∀ n ∈ ns, n ≤ 9) → ns.length ≤ 6 → Mg 2 18 (iD ns) := fun h l => (mg_tup (k := 6) (mg_nD h) (by rw [nD_len]; exact l)).mono (by decide) (by decide)
  refine (mg_lst (n := 2) (w := 18) (k := 5) (ds := [.str (numS q.ds), iD q.order, iD q.counts, iD q.owed, mvD q.moves]) (fun d m => ?_) (Nat.le_refl 5)).mono (by decide) (by decide)
  simp only [List.mem_cons, List.not_mem_nil, or_false] at m
  rcases m with rfl | rfl | rfl | rfl | rfl
  · exact mg_num ok.num (by decide)
  · exact i6 (fun n m => Nat.le_trans (ok.ord n m) (by decide)) l6
  · exact i6 (fun n m => Nat.le_trans (ok.c6 n m) (by decide)) (by rw [ok.c3]; decide)
  · exact i6 (fun n m => Nat.le_trans (ok.o6 n m) (by decide)) (by rw [ok.o3]; decide)
  · refine (mg_tup (n := 1) (w := 2) (k := 6) (ds := q.moves.map mD) (fun d m => ?_) (by rw [List.length_map]; exact m6)).mono (by decide) (by decide)
    obtain ⟨x, hx, rfl⟩ := List.mem_map.mp m
    have := ok.mv x hx
    exact mg_tup (n := 0) (w := 0) (k := 2) (mg_nD (ns := [x.1, x.2]) fun n m => by
      rcases List.mem_cons.mp m with rfl | m
      · omega
      · rw [List.mem_singleton.mp m]; omega) (Nat.le_refl 2)
theorem ok_as (T : Txt K mg) : FnOk P w K mg base CX0 2 T.a_as T.d_as ["_law_bag_here", "_law_items"] (sp_as K) := by
  refine T.F_as.ok sc_as (fun vs H Q E h => ?_) (fun cdv A outer s H vs Q E hr h => ?_)
  · obtain ⟨b, l, xs, rfl, _⟩ := h
    rfl
  · obtain ⟨b, l, xs, rfl, hb, nl, hl, k⟩ := h
    refine ⟨_, (pss_one (ps_ret (pe_ifExp (pt_cmpR op_eq (pe_call (ok_take T) (hr.mono (by decide)) (by rfl) T.g_take T.F_take.kp T.b_take .nil pass0 (pa_cons (pv 0) (pa_cons pe_int pa_nil))) pe_int (nomark _)) (pe_callTy (call_lstS (K := K) rfl) (by rfl) T.z_list (by decide +kernel) (pa_cons (pv 1) pa_nil)) (pe_callTy (call_tupS (K := K) rfl) (by rfl) T.z_tuple (by decide +kernel) (pa_cons (pv 1) pa_nil))))), ?_⟩
    refine ⟨_, rfl, b, 2, rfl, hb, by decide, by decide, fun H1 d hd off hb1 => ⟨rfl, _, rfl, ?_⟩⟩
    have hl1 := off _ _ nl hl
    refine ite2 (fun _ => ?_) (fun _ => ?_)
    · refine ⟨_, rfl, l, xs, false, rfl, SqL.of hl1, fun r ns hr => k _ r false (off.trans (.of (same_new hr))) (hb1.k (same_new hr)) (fun _ => ⟨?_, ns, upd_same⟩) (SqL.of upd_same)⟩
      cases e : H r with
      | none => rfl
      | some o =>
        by_cases c : r = b
        · subst c
          obtain ⟨_, _, e2, _⟩ := hb1
          rw [e2] at hr
          cases hr
        · rw [off _ _ c e] at hr
          cases hr
    · exact ⟨_, rfl, l, xs, false, rfl, SqL.of hl1, fun r H2 s2 hT => k _ r true (off.trans (.of s2)) (hb1.k s2) (fun e => by cases e) hT⟩
theorem ok_shown (T : Txt K mg) : Rp.GOk P w K mg base CX0 1 T.a_shown T.d_shown ["_law_card"] (sp_shown K T.CC) := by
  refine Rp.gok T.F_shown sc_shown (fun vs H Q E h => ?_) (fun cdv A outer s H vs Q E hg hr h => ?_)
  · obtain ⟨p, q, rfl, _⟩ := h
    rfl
  · obtain ⟨p, q, rfl, hC, ok, k⟩ := h
    obtain ⟨dx, fs, o1, o2, o3, o4, hp, l1, l2, D1, l3, D2, l4, D3, l5, D4, no⟩ := hC
    refine ⟨_, (pss_one (ps_ret (pe_callB (show CallR _ _ (De.rReprE K) from De.call_reprE hg hr.units) (by rfl) T.z_repr (by decide +kernel) (pa_cons (Dz.pe_lstZ (pa_cons (pe_fld (pv 0) rfl) (pa_cons (pe_fld (pv 0) rfl) (pa_cons (pe_fld (pv 0) rfl) (pa_cons (pe_fld (pv 0) rfl) (pa_cons (pe_fld (pv 0) rfl) pa_nil)))))) pa_nil)))), ?_⟩
    have mg := card_mg ok
    refine ⟨_, rfl, p, T.CC, dx, fs, _, rfl, hp, T.clCC, T.nNu, l1, _, rfl, p, T.CC, dx, fs, _, rfl, hp, T.clCC, T.nOr, l2, _, rfl, p, T.CC, dx, fs, _, rfl, hp, T.clCC, T.nCo, l3, _, rfl, p, T.CC, dx, fs, _, rfl, hp, T.clCC, T.nOw, l4, _, rfl, p, T.CC, dx, fs, _, rfl, hp, T.clCC, T.nMo, l5, small_len (by show 5 ≤ 100000; decide), fun L nL hL => ?_⟩
    have s1 := same_new (o := .lst [.str (numS q.ds), o1, o2, o3, o4]) hL
    refine ⟨_, showD q, fun a => a ≠ sysModules, rfl, fun _ h => h, .lst nL upd_same (.cons (.str _) (.cons (.ofDt _ _ (D1.k (Kt.same s1))) (.cons (.ofDt _ _ (D2.k (Kt.same s1))) (.cons (.ofDt _ _ (D3.k (Kt.same s1))) (.cons (.ofDt _ _ (D4.k (Kt.same s1))) .nil))))), mg.sh, Nat.le_trans mg.dp (by decide), mg.fits (by decide), k _ s1⟩
end
end K54

namespace K54
open PySem L2 Wm TL Dv De
section
variable {P : Program} {w : World} {K : PySem.W.Frag} {mg : Str → Option Value} {base : Heap}
theorem Fit.str {N : Addr → Prop} {H : Hp} {x : V} {n o c w m : PyData} {q : Cd} (f : Fit n o c w m q) (h : En K N H x n) : x = .str (numS q.ds) := by
  rw [f.hn] at h
  cases h
  rfl
theorem CardAt.ks {CC : Addr} {H H' : Hp} {p : Addr} {q : Cd} (h : CardAt K CC H p q) (s : Same H H') : CardAt K CC H' p q := by
  obtain ⟨dx, fs, o1, o2, o3, o4, hp, l1, l2, D1, l3, D2, l4, D3, l5, D4, no⟩ := h
  exact ⟨dx, fs, o1, o2, o3, o4, s _ _ hp, l1, l2, D1.k (Kt.same s), l3, D2.k (Kt.same s), l4, D3.k (Kt.same s), l5, D4.k (Kt.same s), no⟩
theorem ok_plain (T : Txt K mg) : Rp.GOk P w K mg base CX0 1 T.a_plain T.d_plain ["_law_parts_here"] (sp_plain K) := by
  refine Rp.gok T.F_plain sc_plain (fun vs H Q E h => ?_) (fun cdv A outer s H vs Q E hg hr h => ?_)
  · obtain ⟨l, n, o, c, w0, m, N, q, rfl, _⟩ := h
    rfl
  · obtain ⟨l, n, o, c, w0, m, N, q, rfl, h5, fit, ok, k⟩ := h
    obtain ⟨x1, x2, x3, x4, x5, hl, d1, d2, d3, d4, d5⟩ := h5
    have ex := fit.str d1
    subst ex
    obtain ⟨fn, fos, fo, fcs, fc, fws, fw, fms, fm, fmq⟩ := fit
    obtain ⟨po, xo, t2, rfl, hO, dO, _⟩ := seq_en d2 fos
    obtain ⟨pc, xc, t3, rfl, hC, dC, _⟩ := seq_en d3 fcs
    obtain ⟨pw, xw, t4, rfl, hW, dW, _⟩ := seq_en d4 fws
    obtain ⟨pm, xm, t5, rfl, hM, dM, _⟩ := seq_en d5 fms
    rw [fo] at dO
    rw [fc] at dC
    rw [fw] at dW
    have mg := card_mg ok
    have lx := dM.len
    have lm : (itm m).length ≤ 6 := by
      have e := congrArg List.length fm
      rw [List.length_map, List.length_map] at e
      have := ok.m6
      omega
    refine ⟨_, (pss_cons (ps_set (i := 1) sc_plain.nd rfl (Or.inl rfl) (pe_callTy (call_tupS (K := K) rfl) (by rfl) T.z_tuple (by decide +kernel) (pa_cons (pe_lc (own := [("_law_pair", 2)]) (g := gName 2) (tt := tYes) rfl sc_plain.nd (Kd.pi_seq (pe_ix ix_list (pv 0) pe_int (fun _ _ => rfl))) (blkOk_by (own := [("_law_pair", 2)]) (N := nm_plain) (sc := (defScope s_plain)) (by decide +kernel)) (fun _ _ _ _ _ => pg_name (i := 2) sc_plain.nd rfl (Or.inl rfl)) (fun _ _ _ _ _ => pts_nil) (fun _ _ _ _ _ => (pe_callTy (call_tupS (K := K) rfl) (by rfl) T.z_tuple (by decide +kernel) (pa_cons (pv 2) pa_nil)))) pa_nil)))
      (pss_one (ps_ret (pe_callB (show CallR _ _ (De.rReprE K) from De.call_reprE hg hr.units) (by rfl) T.z_repr (by decide +kernel) (pa_cons (Dz.pe_lstZ (pa_cons (pe_ix ix_list (pv 0) pe_int (fun _ _ => rfl)) (pa_cons (pe_callTy (call_tupS (K := K) rfl) (by rfl) T.z_tuple (by decide +kernel) (pa_cons (pe_ix ix_list (pv 0) pe_int (fun _ _ => rfl)) pa_nil)) (pa_cons (pe_callTy (call_tupS (K := K) rfl) (by rfl) T.z_tuple (by decide +kernel) (pa_cons (pe_ix ix_list (pv 0) pe_int (fun _ _ => rfl)) pa_nil)) (pa_cons (pe_callTy (call_tupS (K := K) rfl) (by rfl) T.z_tuple (by decide +kernel) (pa_cons (pe_ix ix_list (pv 0) pe_int (fun _ _ => rfl)) pa_nil)) (pa_cons (pv 1) pa_nil)))))) pa_nil))))), ?_⟩
    refine ⟨_, rfl, l, _, 4, _, rfl, rfl, SqL.of hl, atI_nat (j := 4) rfl, pm, xm, t5, rfl, hM, fun J GG w2 hG D hD => ?_⟩
    refine Lm.lc_map (K := K) w2 (fun i y H' => ∃ z, (itm m)[i]? = some z ∧ Dt K H' y (.tuple (itm z))) (fun i y H1 H2 h s => by obtain ⟨z, a, b⟩ := h; exact ⟨z, a, b.k s⟩) hD (by omega) (fun H' s => hG _ (hM.keep s)) (fun i x H' hi hx sm Q2 Z qq => ?_) (fun H9 ys s9 hy ly hR => ?_)
    · obtain ⟨z, hz, dz⟩ := dM.at hx
      have mz := List.mem_of_getElem? hz
      obtain ⟨px, ys, t6, rfl, hX, dX, _⟩ := seq_en dz (fmq z mz)
      have e6 : ∃ x, x ∈ q.moves ∧ PyData.tuple (itm z) = mD x := by
        have := List.mem_map_of_mem (f := fun x => PyData.tuple (itm x)) mz
        rw [fm] at this
        obtain ⟨x, hx, e⟩ := List.mem_map.mp this
        exact ⟨x, hx, e.symm⟩
      obtain ⟨x, _, ex⟩ := e6
      have ei : itm z = nD [x.1, x.2] := PyData.tuple.inj ex
      refine ⟨rfl, yesT ⟨_, rfl, px, ys, t6, rfl, hX.keep sm, fun r6 H6 s6 t7 => qq _ _ s6 ⟨z, hz, ?_⟩⟩⟩
      rw [ei] at dX
      rw [ei]
      exact .tup t7 (nat_dts dX)
    · have dY : Dts K H9 ys (q.moves.map mD) := by
        rw [← fm]
        exact dts_at (by rw [List.length_map]; omega) fun i y hi => by
          obtain ⟨z, a, b⟩ := hR i y hi
          exact ⟨_, by rw [List.getElem?_map, a]; rfl, b⟩
      refine ⟨D, ys, false, rfl, SqL.of hy, fun r5 HE s10 t8 => ?_⟩
      have s11 := s9.trans s10
      have D5 : Dt K HE (.ref r5) (mvD q.moves) := .tup t8 (dY.k (Kt.same s10))
      have hl2 := SqL.of (K := K) (s11 _ _ hl)
      refine ⟨_, rfl, l, _, 0, _, rfl, rfl, hl2, atI_nat (j := 0) rfl, _, rfl, l, _, 1, _, rfl, rfl, hl2, atI_nat (j := 1) rfl, po, xo, t2, rfl, hO.keep s11, fun r1 Ha sa ta => ?_⟩
      have sa0 := s11.trans sa
      refine ⟨_, rfl, l, _, 2, _, rfl, rfl, SqL.of (sa0 _ _ hl), atI_nat (j := 2) rfl, pc, xc, t3, rfl, hC.keep sa0, fun r2 Hb sb tb => ?_⟩
      have sb0 := sa0.trans sb
      refine ⟨_, rfl, l, _, 3, _, rfl, rfl, SqL.of (sb0 _ _ hl), atI_nat (j := 3) rfl, pw, xw, t4, rfl, hW.keep sb0, fun r3 Hc sc tc => ?_⟩
      have sc0 := sb0.trans sc
      refine ⟨_, rfl, small_len (by show 5 ≤ 100000; decide), fun L nL hL => ?_⟩
      have s1 := same_new (o := .lst [.str (numS q.ds), .ref r1, .ref r2, .ref r3, .ref r5]) hL
      have E1 : Dt K Ha (.ref r1) (iD q.order) := .tup ta (nat_dts dO)
      have E2 : Dt K Hb (.ref r2) (iD q.counts) := .tup tb (nat_dts dC)
      have E3 : Dt K Hc (.ref r3) (iD q.owed) := .tup tc (nat_dts dW)
      refine ⟨_, showD q, fun a => a ≠ sysModules, rfl, fun _ h => h, .lst nL upd_same (.cons (.str _) (.cons (.ofDt _ _ (E1.k (Kt.same ((sb.trans sc).trans s1)))) (.cons (.ofDt _ _ (E2.k (Kt.same (sc.trans s1)))) (.cons (.ofDt _ _ (E3.k (Kt.same s1))) (.cons (.ofDt _ _ (D5.k (Kt.same (((sa.trans sb).trans sc).trans s1)))) .nil))))), mg.sh, Nat.le_trans mg.dp (by decide), mg.fits (by decide), k _ (sc0.trans s1)⟩
theorem ok_tried (T : Txt K mg) : FnOk P w K mg base CX0 8 T.a_tried T.d_tried ["_law_parts_here"] (sp_tried K T.CC) := by
  refine T.F_tried.ok sc_tried (fun vs H Q E h => ?_) (fun cdv A outer s H vs Q E hr h => ?_)
  · obtain ⟨l, n, o, c, w0, m, N, rfl, _⟩ := h
    rfl
  · obtain ⟨l, n, o, c, w0, m, N, rfl, h5, tx, lo, kz⟩ := h
    have kk : ∀ q, Fit n o c w0 m q → CdOk q → ∀ H' t p, Same H H' → SqT K H' t [.str "card", .ref p] → CardAt K T.CC H' p q → Q (.ref t) H' := fun q f g H' t p s a b => kz H' t s (.inl ⟨q, p, f, g, a, b⟩)
    have kb : ∀ z, faultW n o c w0 m = some z → ∀ H' t, Same H H' → SqT K H' t [.str "bad", .str z] → Q (.ref t) H' := fun z e H' t s a => kz H' t s (.inr ⟨z, e, a⟩)
    obtain ⟨x1, x2, x3, x4, x5, hl, d1, d2, d3, d4, d5⟩ := h5
    refine ⟨_, (pss_one (Ta.ps_try_ass (W := fun _ _ _ _ => False) rfl rfl sc_tried.nd takes0 (fun U pn xe tk _ => (pss_one (ps_ret (pe_tup (pa_cons pe_str (pa_cons (Kw.pe_makeKS T.mk_cinit (ok_cinit T) (hr.mono (by decide)) (by rfl) T.gCC T.kb_cinit (fun σ => Rf.passN tk σ) (pa_cons (pe_ix (show IxR _ (rIxL K) from ix_list) (pv 0) pe_int (fun _ _ => rfl)) (pa_cons (pe_ix (show IxR _ (rIxL K) from ix_list) (pv 0) pe_int (fun _ _ => rfl)) pa_nil)) (pk_cons (pe_ix (show IxR _ (rIxL K) from ix_list) (pv 0) pe_int (fun _ _ => rfl)) (pk_cons (pe_ix (show IxR _ (rIxL K) from ix_list) (pv 0) pe_int (fun _ _ => rfl)) (pk_cons (pe_ix (show IxR _ (rIxL K) from ix_list) (pv 0) pe_int (fun _ _ => rfl)) pk_nil)))) pa_nil)))))) (Ta.Hds.cons (h := ⟨Value.ref T.CB, 1, _⟩) rfl rfl ⟨rfl, by decide, Or.inl T.lowC.gC⟩ (fun a oe cls d pn hz hf => (St2.pss_two (ps_set (i := 2) sc_tried.nd rfl (Or.inl rfl) (pe_and (pe_callB (Xe.call_isD T.xcC T.cliC hz hf) (by rfl) T.z_isinstance (by decide +kernel) (pa_cons (pv 1) (pa_cons (pe_glob (v := V.ref T.Wc) (by rfl) T.gWc rfl) pa_nil))) (pe_one (pe_not (pe_callB (Xe.call_isDT T.xcC T.cliC hz hf) (by rfl) T.z_isinstance (by decide +kernel) (pa_cons (pv 1) (pa_cons (pe_tup (pa_cons (pe_glob (v := V.ref T.CT) (by rfl) T.lowT.gC rfl) (pa_cons (pe_glob (v := V.ref T.Sc) (by rfl) T.gSc rfl) pa_nil))) pa_nil))))))) (ps_ret (pe_tup (pa_cons (pe_ifExp (pt_val (pv 2)) pe_str pe_str) (pa_cons (pe_byLowC T.lowC hz hf (pv 1)) pa_nil)))) rfl)) Ta.Hds.nil))), ?_⟩
    have hL : SqL K H l _ := SqL.of hl
    refine ⟨_, rfl, l, _, 0, _, rfl, rfl, hL, atI_nat (j := 0) rfl, _, rfl, l, _, 1, _, rfl, rfl, hL, atI_nat (j := 1) rfl, ?_⟩
    refine ⟨_, rfl, l, _, 2, _, rfl, rfl, hL, atI_nat (j := 2) rfl, _, rfl, l, _, 3, _, rfl, rfl, hL, atI_nat (j := 3) rfl, _, rfl, l, _, 4, _, rfl, rfl, hL, atI_nat (j := 4) rfl, rfl, rfl, fun x dx hx hdx nx => ?_⟩
    have sX : Same H (upd (upd H dx (.own x)) x (.ins T.CC dx [])) := (same_new hdx).trans (same_new (by rw [upd_ne (fun e => nx e.symm)]; exact hx))
    refine ⟨x, dx, _, _, _, _, _, n, o, c, w0, m, N, rfl, upd_same, d1.ks sX, d2.ks sX, d3.ks sX, d4.ks sX, d5.ks sX, tx, lo, fun q fit ok H8 off hC => ⟨rfl, small_len (by show 2 ≤ 100000; decide), fun t ht => ?_⟩, fun z hz H8 dd s8 h8 => ?_⟩
    · have s8 : Same H H8 := fun a o e => off _ _ (fun z => by rw [z, hx] at e; cases e) (sX _ _ e)
      refine kk q fit ok _ t x (s8.trans (same_new ht)) (.inl (.inl upd_same)) ?_
      exact hC.ks (same_new ht)
    · have s9 := sX.trans s8
      refine ⟨true, T.lowC.te, fun _ a0 ha0 => ?_, fun z => Bool.noConfusion z⟩
      refine ⟨_, rfl, .ref T.Wc, .ref T.Wc, true, dd, _, rfl, rfl, rfl, h8, fun u h => h, T.kCW, true, rfl, iteT ?_⟩
      refine ⟨_, rfl, small_len (by show 2 ≤ 100000; decide), fun tp htp => ?_⟩
      have h9 := same_new (o := .tup [.ref T.CT, .ref T.Sc]) htp _ _ h8
      refine ⟨tp, [.ref T.CT, .ref T.Sc], [.ref T.CT, .ref T.Sc], false, dd, _, rfl, rfl, rfl, h9, upd_same, .cons (.own _) (.cons (.own _) .nil), kitAny_cons (b := false) T.kCT (fun _ => kitAny_cons (b := false) T.kCS (fun _ => rfl) (fun e => by cases e)) (fun e => by cases e), _, rfl, ?_⟩
      have s10 := s9.trans (same_new (o := .tup [.ref T.CT, .ref T.Sc]) htp)
      generalize upd H8 tp (.tup [.ref T.CT, .ref T.Sc]) = H9 at *
      refine ⟨_, rfl, true, rfl, iteT ?_⟩
      refine ⟨_, rfl, rfl, rfl, dd, _, rfl, h9, small_len (by show 2 ≤ 100000; decide), fun t ht => ?_⟩
      exact kb z hz _ t (s10.trans (same_new ht)) (.inl (.inl upd_same))
theorem ok_read_tried (T : Txt K mg) : Rp.GOk P w K mg base CX0 9 T.a_read_tried T.d_read_tried ["_law_text"] (sp_read_tried K T.CC) := by
  refine Rp.gok T.F_read_tried sc_read_tried (fun vs H Q E h => ?_) (fun cdv A outer s H vs Q E hg hr h => ?_)
  · obtain ⟨v, d, N, rfl, _⟩ := h
    rfl
  · obtain ⟨v, d, N, rfl, hd, alt⟩ := h
    refine ⟨_, (pss_one (Ta.ps_try_ass (W := fun _ _ _ _ => False) rfl rfl sc_read_tried.nd takes0 (fun U pn xe tk _ => (pss_one (ps_ret (pe_tup (pa_cons pe_str (pa_cons (Rp.pe_gcall (ok_shown T) hg (hr.mono (by decide)) (by rfl) T.g_shown T.F_shown.kp T.b_shown .nil pass0 (pa_cons (pe_callS (ok_read_card T) (hr.mono (by decide)) rfl T.g_read_card T.F_read_card.kp T.b_read_card (fun σ => passAt tk σ) (by exact (pa_cons (pv 0) pa_nil))) pa_nil)) pa_nil)))))) (Ta.Hds.cons (h := ⟨Value.ref T.CT, 1, _⟩) rfl rfl ⟨rfl, by decide, Or.inl T.lowT.gC⟩ (fun a oe cls d pn hz hf => (pss_one (ps_ret (pe_tup (pa_cons (pe_ifExp (PW.pt (pw_and (pt_val (pe_callB (Xe.call_isD T.xcT T.cliT hz hf) (by rfl) T.z_isinstance (by decide +kernel) (pa_cons (pv 1) (pa_cons (pe_glob (v := V.ref T.Wc) (by rfl) T.gWc rfl) pa_nil)))) (pw_and1 (pt_not (pt_val (pe_callB (Xe.call_isD T.xcT T.cliT hz hf) (by rfl) T.z_isinstance (by decide +kernel) (pa_cons (pv 1) (pa_cons (pe_glob (v := V.ref T.CB) (by rfl) T.lowC.gC rfl) pa_nil)))))))) pe_str pe_str) (pa_cons (pe_byLowT T.lowT hz hf (pv 1)) pa_nil)))))) Ta.Hds.nil))), ?_⟩
    refine ⟨_, rfl, v, d, N, rfl, hd, ?_⟩
    rcases alt with ⟨t, rfl, lt, kz⟩ | ⟨nt, kb⟩
    · cases hd
      have ed : PyData.str t = .str t := rfl
      have kk : ∀ q, CdOk q → t = lineT q → ∀ H' u, Same H H' → SqT K H' u [.str "card", .str (showD q).shown] → Q (.ref u) H' := fun q ok e H' u s a => kz H' u _ _ s a (.inl ⟨q, ok, e, rfl, rfl⟩)
      have kb : (∀ q, CdOk q → t ≠ lineT q) → ∀ H' u, Same H H' → SqT K H' u [.str "bad", .str t] → Q (.ref u) H' := fun no H' u s a => kz H' u _ _ s a (.inr ⟨no, rfl, rfl⟩)
      refine .inl ⟨t, ed, lt, fun q ok et H8 p s8 hC => ?_, fun nq H8 dd s8 h8 => ?_⟩
      · refine ⟨p, q, rfl, hC, ok, fun H9 s9 => ⟨small_len (by show 2 ≤ 100000; decide), fun u hu => ?_⟩⟩
        exact kk q ok et _ u ((s8.trans s9).trans (same_new hu)) (.inl (.inl upd_same))
      · refine ⟨true, T.lowT.te, fun _ a0 ha0 => ?_, fun z => Bool.noConfusion z⟩
        refine ⟨_, rfl, .ref T.Wc, .ref T.Wc, true, dd, _, rfl, rfl, rfl, h8, fun u h => h, T.kTW, true, rfl, iteT ?_⟩
        refine ⟨_, rfl, .ref T.CB, .ref T.CB, false, dd, _, rfl, rfl, rfl, h8, fun u h => h, T.kTC, false, rfl, iteT ?_⟩
        exact ⟨_, rfl, rfl, rfl, dd, _, rfl, h8, small_len (by show 2 ≤ 100000; decide), fun t ht => kb nq _ t (s8.trans (same_new ht)) (.inl (.inl upd_same))⟩
    · refine .inr ⟨nt, fun H8 dd s8 h8 => ?_⟩
      · refine ⟨true, T.lowT.te, fun _ a0 ha0 => ?_, fun z => Bool.noConfusion z⟩
        refine ⟨_, rfl, .ref T.Wc, .ref T.Wc, true, dd, _, rfl, rfl, rfl, h8, fun u h => h, T.kTW, true, rfl, iteT ?_⟩
        refine ⟨_, rfl, .ref T.CB, .ref T.CB, false, dd, _, rfl, rfl, rfl, h8, fun u h => h, T.kTC, false, rfl, iteT ?_⟩
        exact ⟨_, rfl, rfl, rfl, dd, _, rfl, h8, small_len (by show 2 ≤ 100000; decide), fun t ht => kb _ t (s8.trans (same_new ht)) (.inl (.inl upd_same))⟩
theorem ok_bent (T : Txt K mg) : FnOk P w K mg base CX0 3 T.a_bent T.d_bent ["_law_bag_here", "_law_text"] (sp_bent K) := by
  refine T.F_bent.ok sc_bent (fun vs H Q E h => ?_) (fun cdv A outer s H vs Q E hr h => ?_)
  · obtain ⟨b, t, rfl, _⟩ := h
    rfl
  · obtain ⟨b, t, rfl, hb, lt, k⟩ := h
    refine ⟨_, (pss_cons (ps_par (i := 2) (j := 3) rfl sc_bent.nd rfl rfl (by decide) rfl rfl (pa_cons (pe_call (ok_take T) (hr.mono (by decide)) (by rfl) T.g_take T.F_take.kp T.b_take .nil pass0 (pa_cons (pv 0) (pa_cons (pe_op op_add (pe_callB call_len_str (by rfl) T.z_len PySem.boot_len (pa_cons (pv 1) pa_nil)) pe_int) pa_nil))) (pa_cons (pe_call (ok_take T) (hr.mono (by decide)) (by rfl) T.g_take T.F_take.kp T.b_take .nil pass0 (pa_cons (pv 0) (pa_cons pe_int pa_nil))) pa_nil)) rfl)
      (pss_cons (ps_set (i := 4) sc_bent.nd rfl (Or.inl rfl) (pe_call (ok_of T) (hr.mono (by decide)) (by rfl) T.g_of T.F_of.kp T.b_of .nil pass0 (pa_cons (pv 0) (pa_cons (pe_callTy (St2.call_listS rfl) (by rfl) T.z_list (by decide +kernel) (pa_cons pe_str pa_nil)) pa_nil))))
      (pss_cons (ps_if (pt_cmpR op_eq (pv 3) pe_int (nomark _))
        (pss_one (ps_ret (pe_op op_add_str (pe_op op_add_str (pe_slice sl_str (pv 1) po_none (po_some (pv 2))) (pv 4)) (pe_slice sl_str (pv 1) (po_some (pv 2)) po_none))))
        pss_nil)
      (pss_one (ps_ret (pe_op op_add_str (pe_op op_add_str (pe_slice sl_str (pv 1) po_none (po_some (pv 2))) (pe_ifExp (pt_cmpR op_eq (pv 3) pe_int (nomark _)) (pv 4) pe_str)) (pe_slice sl_str (pv 1) (po_some (pe_op op_add (pv 2) pe_int)) po_none))))))), ?_⟩
    refine ⟨_, rfl, _, rfl, _, rfl, small_len (by omega), _, _, rfl, rfl, b, t.length + 1, rfl, hb, by omega, by omega, fun H1 d1 hd1 off1 hb1 => ?_⟩
    refine ⟨_, rfl, b, 3, rfl, hb1, by decide, by decide, fun H2 d2 hd2 off2 hb2 => ⟨_, _, rfl, ?_⟩⟩
    refine ⟨_, rfl, _, rfl, by decide +kernel, fun q hq => ?_⟩
    have sq := same_new (o := .lst (Si2.sgs "0123456789 />:-x")) hq
    have hb3 := hb2.k sq
    refine ⟨b, q, _, rfl, hb3, hb2.off hq, upd_same, by decide +kernel, by decide +kernel, fun H3 v mv off3 hb4 => ?_⟩
    obtain ⟨c, _, rfl⟩ := List.mem_map.mp (show v ∈ (("0123456789 />:-x" : Str).cps.toList.map fun c => V.str ⟨#[c]⟩) from mv)
    have offA : Off b H H3 := ((off1.trans off2).trans (.of sq)).trans off3
    have c1 := cutS_length t none (some (d1 : Int))
    have c2 := cutS_length t (some (d1 : Int)) none
    have c3 := cutS_length t (some ((d1 : Int) + 1)) none
    have la : ∀ x y : Str, (x ++ y).length = x.length + y.length := fun x y => by
      rw [len_tl, len_tl, len_tl, tl_append, List.length_append]
    have l1 : (⟨#[c]⟩ : Str).length = 1 := rfl
    have le : (Str.ofString "" : Str).length = 0 := by decide +kernel
    refine ⟨_, rfl, rfl, _, rfl, ite2 (fun _ => ?_) (fun _ => ?_)⟩
    · refine ⟨_, rfl, _, rfl, _, rfl, t, rfl, small_len (by omega), _, rfl, _, _, rfl, rfl, small_len (by omega), ?_⟩
      refine ⟨_, rfl, _, rfl, _, rfl, t, rfl, small_len (by omega), _, _, rfl, rfl, small_len (by rw [la]; omega), ?_⟩
      exact k _ _ (by rw [la, la]; omega) offA hb4
    · refine ⟨_, rfl, _, rfl, _, rfl, t, rfl, small_len (by omega), _, rfl, rfl, _, rfl, ite2 (fun _ => ?_) (fun _ => ?_)⟩
      · refine ⟨_, rfl, _, _, rfl, rfl, small_len (by omega), ?_⟩
        refine ⟨_, rfl, _, rfl, _, _, rfl, rfl, ?_⟩
        refine ⟨_, rfl, t, rfl, small_len (by omega), _, _, rfl, rfl, small_len (by rw [la]; omega), ?_⟩
        exact k _ _ (by rw [la, la]; omega) offA hb4
      · refine ⟨_, _, rfl, rfl, small_len (by omega), ?_⟩
        refine ⟨_, rfl, _, rfl, _, _, rfl, rfl, ?_⟩
        refine ⟨_, rfl, t, rfl, small_len (by omega), _, _, rfl, rfl, small_len (by rw [la]; omega), ?_⟩
        exact k _ _ (by rw [la, la]; omega) offA hb4
end
end K54

namespace K54
open PySem L2 Wm TL Dv De
section
variable {P : Program} {w : World} {K : PySem.W.Frag} {mg : Str → Option Value} {base : Heap}
/-- whole numbers of one figure each, as values -/
theorem nat_vals {N : Addr → Prop} {H : Hp} : ∀ {xs : List V} {ns : List Nat}, Ens K N H xs (nD ns) → xs = ns.map fun n => V.int (n : Nat)
  | _, [], h => by cases h; rfl
  | _, n :: ns, h => by
    cases h with
    | cons a b =>
      cases a
      rw [nat_vals b]
      rfl
theorem join_row (ns : List Nat) : Txt.join " " (ns.map fun n => SX.S [n + 48]) = SX.S (rowC ns) := by
  have e2 := SX.join_S [32] (sgn ns)
  rw [show SX.S [32] = (" " : Str) by decide +kernel] at e2
  rw [← show SX.S (joinL [32] (sgn ns)) = SX.S (rowC ns) from rfl, ← e2]
  unfold sgn
  rw [List.map_map]
  rfl
theorem app_len (x y : Str) : (x ++ y).length = x.length + y.length := by
  rw [len_tl, len_tl, len_tl, tl_append, List.length_append]
theorem ok_line (T : Txt K mg) : FnOk P w K mg base CX0 1 T.a_line T.d_line ["_law_parts_here"] (sp_line K) := by
  refine T.F_line.ok sc_line (fun vs H Q E h => ?_) (fun cdv A outer s H vs Q E hr h => ?_)
  · obtain ⟨l, n, o, c, w0, m, N, q, rfl, _⟩ := h
    rfl
  · obtain ⟨l, n, o, c, w0, m, N, q, rfl, h5, fit, ok, k⟩ := h
    obtain ⟨x1, x2, x3, x4, x5, hl, d1, d2, d3, d4, d5⟩ := h5
    have ex := fit.str d1
    subst ex
    obtain ⟨fn, fos, fo, fcs, fc, fws, fw, fms, fm, fmq⟩ := fit
    obtain ⟨po, xo, t2, rfl, hO, dO, _⟩ := seq_en d2 fos
    obtain ⟨pc, xc, t3, rfl, hC, dC, _⟩ := seq_en d3 fcs
    obtain ⟨pw, xw, t4, rfl, hW, dW, _⟩ := seq_en d4 fws
    obtain ⟨pm, xm, t5, rfl, hM, dM, _⟩ := seq_en d5 fms
    rw [fo] at dO
    rw [fc] at dC
    rw [fw] at dW
    have vO := nat_vals dO
    have vC := nat_vals dC
    have vW := nat_vals dW
    subst vO vC vW
    have lx := dM.len
    have lm : (itm m).length = q.moves.length := by
      have e := congrArg List.length fm
      rw [List.length_map, List.length_map] at e
      exact e
    have m6 := ok.m6
    have o6 := ord_len ok
    have ld := num4 ok.num
    have c3 := ok.c3
    have w3 := ok.o3
    have c2 : (": " : Str) = SX.S [58, 32] := by decide +kernel
    refine ⟨_, (pss_cons (ps_asg (pv 0) (pg_lst rfl (pgs_cons (pg_name (i := 1) sc_line.nd rfl (Or.inl rfl)) (pgs_cons (pg_name (i := 2) sc_line.nd rfl (Or.inl rfl)) (pgs_cons (pg_name (i := 3) sc_line.nd rfl (Or.inl rfl)) (pgs_cons (pg_name (i := 4) sc_line.nd rfl (Or.inl rfl)) (pgs_cons (pg_name (i := 5) sc_line.nd rfl (Or.inl rfl)) pgs_nil)))))))
      (pss_cons (ps_set (i := 6) sc_line.nd rfl (Or.inl rfl) (pe_lst (pa_cons (pe_op op_add_str (pe_op op_add_str (pv 1) pe_str) (pe_ifExp (pt_cmpR op_gt (pe_callB call_len_seq (by rfl) T.z_len PySem.boot_len (pa_cons (pv 2) pa_nil)) pe_int (nomark _)) (pe_join pe_str (pe_lc (own := [("_law_crew", 7)]) (g := gName 7) (tt := tYes) rfl sc_line.nd (Kd.pi_seq (pv 2)) (blkOk_by (own := [("_law_crew", 7)]) (N := nm_line) (sc := (defScope s_line)) (by decide +kernel)) (fun _ _ _ _ _ => pg_name (i := 7) sc_line.nd rfl (Or.inl rfl)) (fun _ _ _ _ _ => pts_nil) (fun _ _ _ _ _ => (pe_callTy call_str_int (by rfl) T.z_str (by decide +kernel) (pa_cons (pv 7) pa_nil))))) pe_str)) pa_nil)))
      (pss_cons (ps_expr (pe_bm PySem.F.plainAttrs_list PySem.F.slot_list_append PySem.F.type_list_append mt_append (pv 6) (pa_cons (pe_join pe_str (pe_lc (own := [("_law_count", 8)]) (g := gName 8) (tt := tYes) rfl sc_line.nd (Kd.pi_seq (pv 3)) (blkOk_by (own := [("_law_count", 8)]) (N := nm_line) (sc := (defScope s_line)) (by decide +kernel)) (fun _ _ _ _ _ => pg_name (i := 8) sc_line.nd rfl (Or.inl rfl)) (fun _ _ _ _ _ => pts_nil) (fun _ _ _ _ _ => (pe_callTy call_str_int (by rfl) T.z_str (by decide +kernel) (pa_cons (pv 8) pa_nil))))) pa_nil)))
      (pss_cons (ps_expr (pe_bm PySem.F.plainAttrs_list PySem.F.slot_list_append PySem.F.type_list_append mt_append (pv 6) (pa_cons (pe_join pe_str (pe_lc (own := [("_law_count", 8)]) (g := gName 8) (tt := tYes) rfl sc_line.nd (Kd.pi_seq (pv 4)) (blkOk_by (own := [("_law_count", 8)]) (N := nm_line) (sc := (defScope s_line)) (by decide +kernel)) (fun _ _ _ _ _ => pg_name (i := 8) sc_line.nd rfl (Or.inl rfl)) (fun _ _ _ _ _ => pts_nil) (fun _ _ _ _ _ => (pe_callTy call_str_int (by rfl) T.z_str (by decide +kernel) (pa_cons (pv 8) pa_nil))))) pa_nil)))
      (pss_cons (ps_for PassesOwn.never rfl (Kd.pi_seq (pv 5)) (pg_name (i := 9) sc_line.nd rfl (Or.inl rfl))
        (pss_one (ps_expr (pe_bm PySem.F.plainAttrs_list PySem.F.slot_list_append PySem.F.type_list_append mt_append (pv 6) (pa_cons (pe_op op_add_str (pe_op op_add_str (pe_callTy call_str_int (by rfl) T.z_str (by decide +kernel) (pa_cons (pe_ix (show IxR _ (Dz.rIxLT K) from Dz.ix_lt) (pv 9) pe_int (fun _ _ => rfl)) pa_nil)) pe_str) (pe_callTy call_str_int (by rfl) T.z_str (by decide +kernel) (pa_cons (pe_ix (show IxR _ (Dz.rIxLT K) from Dz.ix_lt) (pv 9) pe_int (fun _ _ => rfl)) pa_nil))) pa_nil)))))
      (pss_one (ps_ret (pe_join pe_str (pv 6))))))))), ?_⟩
    refine ⟨_, rfl, l, _, rfl, SqL.of hl, rfl, _, _, rfl, _, _, rfl, _, _, rfl, _, _, rfl, _, _, rfl, rfl, ?_⟩
    refine ⟨_, rfl, _, _, rfl, rfl, small_len (by rw [numS_len]; show _ + 2 ≤ _; omega), ?_⟩
    refine ⟨_, rfl, po, _, rfl, hO.sq, _, _, rfl, rfl, _, rfl, ?_⟩
    refine ifExp_k (G := fun x H1 => x = .str (SX.S (ordC q.order)) ∧ Same H H1) (fun c Q kk => ?_) (fun c Q kk => ?_) (fun x H1 hx => ?_)
    · have ne : q.order ≠ [] := fun e => by
        rw [e] at c
        cases c
      refine ⟨⟨_, rfl⟩, _, rfl, po, _, t2, rfl, hO, fun J GG w hG D hD => ?_⟩
      refine Lm.lc_map (K := K) w (fun i y _ => ∃ n, q.order[i]? = some n ∧ y = .str (SX.S [n + 48])) (fun _ _ _ _ h _ => h) hD (by rw [List.length_map]; omega) (fun H' s => hG _ (hO.keep s)) (fun i x H' hi hx sm Q2 Z q2 => ?_) (fun H2 ys s2 hy ly hR => ?_)
      · rw [List.getElem?_map] at hx
        cases en : q.order[i]? with
        | none => rw [en] at hx; cases hx
        | some n =>
        rw [en] at hx
        cases hx
        have n9 : n ≤ 9 := Nat.le_trans (ok.ord n (List.mem_of_getElem? en)) (by decide)
        refine ⟨rfl, yesT ⟨_, rfl, _, rfl, small_log n9, ?_⟩⟩
        rw [dig_S n9]
        exact q2 _ _ (Same.refl _) ⟨n, en, rfl⟩
      · rw [strs_at (f := fun n => SX.S [n + 48]) (by rw [List.length_map] at ly; exact ly) hR] at hy
        refine ⟨_, D, q.order.map fun n => SX.S [n + 48], rfl, rfl, .inl (SqL.of hy), ?_, ?_⟩
        · rw [ones_sum, List.length_map]
          show q.order.length + q.order.length * 1 ≤ _
          omega
        · rw [show Txt.join (Str.ofString " ") (q.order.map fun n => SX.S [n + 48]) = SX.S (rowC q.order) from join_row _]
          refine kk _ _ ⟨?_, s2⟩
          unfold ordC
          rw [if_neg ne]
    · have ne : q.order = [] := by
        have := of_decide_eq_false c
        cases e : q.order with
        | nil => rfl
        | cons a b => rw [e, List.map_cons, List.length_cons] at this; exact absurd (by omega) this
      refine kk _ _ ⟨?_, Same.refl _⟩
      unfold ordC
      rw [if_pos ne]
      exact congrArg V.str (by decide +kernel)
    obtain ⟨rfl, s1⟩ := hx
    have lo12 := ord_clen o6
    have lS : (SX.S (ordC q.order)).length ≤ 12 := by
      rw [SX.S_len]
      exact lo12
    have eW : (numS q.ds ++ (Str.ofString ": " : Str)) ++ SX.S (ordC q.order) = SX.S ((codes q.ds ++ [58, 32]) ++ ordC q.order) := by
      rw [show (Str.ofString ": " : Str) = SX.S [58, 32] from c2, show numS q.ds = SX.S (codes q.ds) from rfl, SX.S_cat, SX.S_cat]
    refine ⟨_, _, rfl, rfl, small_len (by rw [app_len, numS_len]; show _ + 2 + _ ≤ _; omega), ?_⟩
    rw [eW]
    refine ⟨small_len (by show 1 ≤ 100000; decide), fun L hL => ?_⟩
    have s2 := s1.trans (same_new (o := .lst [.str (SX.S ((codes q.ds ++ [58, 32]) ++ ordC q.order))]) hL)
    have hL2 : upd H1 L (.lst [.str (SX.S ((codes q.ds ++ [58, 32]) ++ ordC q.order))]) L = some (.lst [.str (SX.S ((codes q.ds ++ [58, 32]) ++ ordC q.order))]) := upd_same
    have nL : H L = none := by
      cases e : H L with
      | none => rfl
      | some o => rw [s1 _ _ e] at hL; cases hL
    generalize upd H1 L (.lst [.str (SX.S ((codes q.ds ++ [58, 32]) ++ ordC q.order))]) = H2 at *
    refine ⟨_, rfl, .inl ⟨rfl, _, SqL.of hL2⟩, ⟨_, rfl⟩, _, rfl, pc, _, t3, rfl, hC.keep s2, fun J GG w hG D hD => ?_⟩
    refine Lm.lc_map (K := K) w (fun i y _ => ∃ n, q.counts[i]? = some n ∧ y = .str (SX.S [n + 48])) (fun _ _ _ _ h _ => h) hD (by rw [List.length_map]; omega) (fun H' z => hG _ ((hC.keep s2).keep z)) (fun i x H' hi hx sm Q2 Z q2 => ?_) (fun H3 ys s3 hy ly hR => ?_)
    · rw [List.getElem?_map] at hx
      cases en : q.counts[i]? with
      | none => rw [en] at hx; cases hx
      | some n =>
      rw [en] at hx
      cases hx
      have n9 : n ≤ 9 := Nat.le_trans (ok.c6 n (List.mem_of_getElem? en)) (by decide)
      refine ⟨rfl, yesT ⟨_, rfl, _, rfl, small_log n9, ?_⟩⟩
      rw [dig_S n9]
      exact q2 _ _ (Same.refl _) ⟨n, en, rfl⟩
    rw [strs_at (f := fun n => SX.S [n + 48]) (by rw [List.length_map] at ly; exact ly) hR] at hy
    refine ⟨_, D, q.counts.map fun n => SX.S [n + 48], rfl, rfl, .inl (SqL.of hy), ?_, ?_⟩
    · rw [ones_sum, List.length_map]
      show q.counts.length + q.counts.length * 1 ≤ _
      omega
    rw [show Txt.join (Str.ofString " ") (q.counts.map fun n => SX.S [n + 48]) = SX.S (rowC q.counts) from join_row _]
    refine ⟨L, _, _, rfl, rfl, s3 _ _ hL2, Nat.lt_of_lt_of_le (by decide : 1 < 2) (small_len (by decide)), ?_⟩
    have s4 : Same H (upd H3 L (.lst ([V.str (SX.S ((codes q.ds ++ [58, 32]) ++ ordC q.order))] ++ [.str (SX.S (rowC q.counts))]))) := same_mut (s2.trans s3) nL
    have hL4 : upd H3 L (.lst ([V.str (SX.S ((codes q.ds ++ [58, 32]) ++ ordC q.order))] ++ [.str (SX.S (rowC q.counts))])) L = some (.lst ([V.str (SX.S ((codes q.ds ++ [58, 32]) ++ ordC q.order))] ++ [.str (SX.S (rowC q.counts))])) := upd_same
    generalize upd H3 L (.lst ([V.str (SX.S ((codes q.ds ++ [58, 32]) ++ ordC q.order))] ++ [.str (SX.S (rowC q.counts))])) = H4 at *
    refine ⟨_, rfl, .inl ⟨rfl, _, SqL.of hL4⟩, ⟨_, rfl⟩, _, rfl, pw, _, t4, rfl, hW.keep s4, fun J GG w hG D hD => ?_⟩
    refine Lm.lc_map (K := K) w (fun i y _ => ∃ n, q.owed[i]? = some n ∧ y = .str (SX.S [n + 48])) (fun _ _ _ _ h _ => h) hD (by rw [List.length_map]; omega) (fun H' z => hG _ ((hW.keep s4).keep z)) (fun i x H' hi hx sm Q2 Z q2 => ?_) (fun H5 ys s5 hy ly hR => ?_)
    · rw [List.getElem?_map] at hx
      cases en : q.owed[i]? with
      | none => rw [en] at hx; cases hx
      | some n =>
      rw [en] at hx
      cases hx
      have n9 : n ≤ 9 := Nat.le_trans (ok.o6 n (List.mem_of_getElem? en)) (by decide)
      refine ⟨rfl, yesT ⟨_, rfl, _, rfl, small_log n9, ?_⟩⟩
      rw [dig_S n9]
      exact q2 _ _ (Same.refl _) ⟨n, en, rfl⟩
    rw [strs_at (f := fun n => SX.S [n + 48]) (by rw [List.length_map] at ly; exact ly) hR] at hy
    refine ⟨_, D, q.owed.map fun n => SX.S [n + 48], rfl, rfl, .inl (SqL.of hy), ?_, ?_⟩
    · rw [ones_sum, List.length_map]
      show q.owed.length + q.owed.length * 1 ≤ _
      omega
    rw [show Txt.join (Str.ofString " ") (q.owed.map fun n => SX.S [n + 48]) = SX.S (rowC q.owed) from join_row _]
    refine ⟨L, _, _, rfl, rfl, s5 _ _ hL4, Nat.lt_of_lt_of_le (by decide : 2 < 3) (small_len (by decide)), ?_⟩
    have s6 : Same H (upd H5 L (.lst (([V.str (SX.S ((codes q.ds ++ [58, 32]) ++ ordC q.order))] ++ [.str (SX.S (rowC q.counts))]) ++ [.str (SX.S (rowC q.owed))]))) := same_mut (s4.trans s5) nL
    have hL6 : upd H5 L (.lst (([V.str (SX.S ((codes q.ds ++ [58, 32]) ++ ordC q.order))] ++ [.str (SX.S (rowC q.counts))]) ++ [.str (SX.S (rowC q.owed))])) L = some (.lst (([SX.S ((codes q.ds ++ [58, 32]) ++ ordC q.order), SX.S (rowC q.counts), SX.S (rowC q.owed)] ++ (q.moves.take 0).map fun x => SX.S (moveC x)).map V.str)) := upd_same
    generalize upd H5 L (.lst (([V.str (SX.S ((codes q.ds ++ [58, 32]) ++ ordC q.order))] ++ [.str (SX.S (rowC q.counts))]) ++ [.str (SX.S (rowC q.owed))])) = H6 at *
    refine ⟨_, rfl, pm, xm, t5, rfl, hM.keep s6, fun J GG w hG => ?_⟩
    refine for_it w (fun i σ H' => (∃ v7 v8 v9 : Option V, σ = [some (.ref l), some (.str (numS q.ds)), some (.ref po), some (.ref pc), some (.ref pw), some (.ref pm), some (.ref L), v7, v8, v9]) ∧ Same H H' ∧
      H' L = some (.lst (([SX.S ((codes q.ds ++ [58, 32]) ++ ordC q.order), SX.S (rowC q.counts), SX.S (rowC q.owed)] ++ (q.moves.take i).map fun x => SX.S (moveC x)).map V.str)))
      ⟨⟨_, _, _, rfl⟩, s6, hL6⟩ (fun i σ H' _ h => hG _ (hM.keep h.2.1)) (fun i x σ Ha Hb hi hP hY => ?_) (fun σ Ha hP => ?_)
    · obtain ⟨⟨v7, v8, v9, rfl⟩, sa, hLa⟩ := hP
      obtain ⟨rfl, hx⟩ := hY
      obtain ⟨z, hz, dz⟩ := dM.at hx
      obtain ⟨px, ys, t6, rfl, hX, dX, _⟩ := seq_en dz (fmq z (List.mem_of_getElem? hz))
      obtain ⟨xm, em, ez⟩ : ∃ xm, q.moves[i]? = some xm ∧ PyData.tuple (itm z) = mD xm := by
        have e := congrArg (fun l => l[i]?) fm
        simp only [List.getElem?_map, hz] at e
        cases e2 : q.moves[i]? with
        | none => rw [e2] at e; cases e
        | some xm => rw [e2] at e; exact ⟨xm, rfl, Option.some.inj e⟩
      have ei : itm z = nD [xm.1, xm.2] := PyData.tuple.inj ez
      rw [ei] at dX
      have vX := nat_vals dX
      subst vX
      have hX := hX.keep sa
      have x9 := ok.mv xm (List.mem_of_getElem? em)
      refine ⟨_, rfl, .inl ⟨rfl, _, SqL.of hLa⟩, _, rfl, ixK (v := .int (xm.1 : Nat)) hX rfl ⟨_, rfl, small_log (by omega), ?_⟩⟩
      rw [dig_S (by omega)]
      refine ⟨_, _, rfl, rfl, small_len (by rw [SX.S_len]; show 1 + 1 ≤ 100000; decide), ?_⟩
      rw [show (Str.ofString ">" : Str) = SX.S [62] by decide +kernel, SX.S_cat]
      refine ⟨_, rfl, ixK (v := .int (xm.2 : Nat)) hX rfl ⟨_, rfl, small_log (by omega), ?_⟩⟩
      rw [dig_S (by omega)]
      refine ⟨_, _, rfl, rfl, small_len (by rw [SX.S_len, SX.S_len]; show 2 + 1 ≤ 100000; decide), ?_⟩
      rw [SX.S_cat]
      refine ⟨L, _, _, rfl, rfl, hLa, small1000 (by rw [List.length_map, List.length_append, List.length_map, List.length_take]; show 3 + _ ≤ 1000; omega), ⟨_, _, _, rfl⟩, same_mut sa nL, ?_⟩
      rw [upd_same, List.take_add_one, em, List.map_append, List.map_append, List.map_append, List.map_append, List.append_assoc]
      rfl
    · obtain ⟨⟨v7, v8, v9, rfl⟩, sa, hLa⟩ := hP
      rw [show xm.length = q.moves.length by omega, List.take_length] at hLa
      obtain ⟨u1, u2⟩ := parts_sum ok
      have eP : ([SX.S ((codes q.ds ++ [58, 32]) ++ ordC q.order), SX.S (rowC q.counts), SX.S (rowC q.owed)] ++ q.moves.map fun x => SX.S (moveC x)) = (((codes q.ds ++ [58, 32]) ++ ordC q.order) :: rowC q.counts :: rowC q.owed :: q.moves.map moveC).map SX.S := by
        rw [List.map_cons, List.map_cons, List.map_cons, List.map_map]
        rfl
      rw [eP] at hLa
      refine ⟨⟨_, rfl⟩, _, rfl, _, L, _, rfl, rfl, .inl (SqL.of hLa), ?_, ?_⟩
      · rw [SX.lens, List.length_map]
        have e : (((((codes q.ds ++ [58, 32]) ++ ordC q.order) :: rowC q.counts :: rowC q.owed :: q.moves.map moveC).map List.length).sum) = q.ds.length + 2 + ((partsC q).map List.length).sum := by
          unfold partsC
          simp only [List.map_cons, List.sum_cons, List.length_append, codes_len]
          simp only [List.length_cons, List.length_nil]
          omega
        show (List.map List.length _).sum + _ * 3 ≤ 16777216
        rw [e]
        have e2 : (((codes q.ds ++ [58, 32]) ++ ordC q.order) :: rowC q.counts :: rowC q.owed :: q.moves.map moveC).length = (partsC q).length := rfl
        rw [e2]
        omega
      · have e6 : Txt.join (Str.ofString " / ") ((((codes q.ds ++ [58, 32]) ++ ordC q.order) :: rowC q.counts :: rowC q.owed :: q.moves.map moveC).map SX.S) = SX.S (lineC q) := by
          rw [show (Str.ofString " / " : Str) = SX.S [32, 47, 32] by decide +kernel, SX.join_S, joinL_cons (by simp)]
          unfold lineC partsC
          rw [joinL_cons (p := ordC q.order) (by simp), List.append_assoc, List.append_assoc]
        rw [e6]
        exact k _ sa
end
end K54

namespace K54
open PySem L2 Wm TL Dv De
section
variable {P : Program} {w : World} {K : PySem.W.Frag} {mg : Str → Option Value} {base : Heap}
theorem figD_yes {t : List Nat} {ns : List Nat} (h : digsD 32 t = nD ns) : figD t = .list (nD ns) := by
  unfold figD
  rw [if_pos ⟨ns, h⟩, h]
theorem figD_no {t : List Nat} (h : ∀ ns, digsD 32 t ≠ nD ns) : figD t = .none := by
  unfold figD
  rw [if_neg fun ⟨ns, e⟩ => h ns e]
theorem int_ens {N : Addr → Prop} {H : Hp} : ∀ ns : List Nat, Ens K N H (ns.map fun n => V.int (n : Nat)) (nD ns)
  | [] => .nil
  | n :: ns => .cons (.int _) (int_ens ns)
theorem inV_word (w : Str) : inV (.str w) (Si2.sgs "0123456789") = true ↔ ∃ n : Nat, n ≤ 9 ∧ tl w = [n + 48] := by
  unfold inV Si2.sgs
  rw [List.any_map, List.any_eq_true]
  constructor
  · rintro ⟨d, m, e⟩
    have e2 : (⟨#[d]⟩ : Str) = w := by
      have e : ((⟨#[d]⟩ : Str) == w) = true := e
      exact eq_of_beq e
    obtain ⟨n, l, rfl⟩ := (dig10 d).mp m
    exact ⟨n, l, by rw [← e2]⟩
  · rintro ⟨n, l, e⟩
    have e2 : w = ⟨#[n + 48]⟩ := ext_tl e
    subst e2
    exact ⟨n + 48, (dig10 _).mpr ⟨n, l, rfl⟩, beq_self_eq_true (⟨#[n + 48]⟩ : Str)⟩
theorem take_all {α : Type} {l : List α} {n : Nat} (h : l.length ≤ n) : l.take n = l := List.take_of_length_le h
theorem ok_figures (T : Txt K mg) : FnOk P w K mg base CX0 1 T.a_figures T.d_figures ["_law_text"] (sp_figures K) := by
  refine T.F_figures.ok sc_figures (fun vs H Q E h => ?_) (fun cdv A outer s H vs Q E hr h => ?_)
  · obtain ⟨t, rfl, _⟩ := h
    rfl
  · obtain ⟨t, rfl, lt, k⟩ := h
    have tsp : tl (" " : Str) = [32] := by decide +kernel
    have es := split_tl (t := t) tsp (by simp) (by decide)
    have lw : (Txt.split t " ").length ≤ t.length + 1 := by
      have e := num_len (S := [32]) (p := []) (ps := (Txt.split t " ").map tl) (by simp)
      rw [List.length_map, es, join_spl (by simp), ← len_tl] at e
      exact e
    have ld : (digsD 32 (tl t)).length = (Txt.split t " ").length := by
      unfold digsD
      rw [← es, List.length_map, List.length_map]
    refine ⟨_, (pss_cons (ps_set (i := 1) sc_figures.nd rfl (Or.inl rfl) (pe_lst pa_nil))
      (pss_cons (ps_for PassesOwn.never rfl (Kd.pi_seq (pe_split (pv 0) pe_str)) (pg_name (i := 2) sc_figures.nd rfl (Or.inl rfl))
        (pss_cons (ps_if (pt_cmpR op_notIn_seq (pv 2) (pe_callTy (St2.call_listS rfl) (by rfl) T.z_list (by decide +kernel) (pa_cons pe_str pa_nil)) rfl)
          (pss_one (ps_ret pe_non))
          pss_nil)
        (pss_one (ps_expr (pe_bm PySem.F.plainAttrs_list PySem.F.slot_list_append PySem.F.type_list_append mt_append (pv 1) (pa_cons (pe_callTy call_int_str (by rfl) T.z_int (by decide +kernel) (pa_cons (pv 2) pa_nil)) pa_nil))))))
      (pss_one (ps_ret (pv 1))))), ?_⟩
    refine ⟨small_len (by show 0 ≤ 100000; decide), fun F hF => ?_⟩
    have s1 := same_new (o := .lst []) hF
    have hF1 : upd H F (.lst []) F = some (.lst (([] : List Nat).map fun n => V.int (n : Nat))) := upd_same
    generalize upd H F (.lst []) = H1 at *
    refine ⟨_, rfl, ⟨_, rfl⟩, t, _, rfl, rfl, by decide +kernel, small_len (by omega), fun q hq => ?_⟩
    rw [show (Str.ofString " " : Str) = (" " : Str) from rfl]
    generalize hws : Txt.split t " " = ws at *
    have s2 := s1.trans (same_new (o := .lst (ws.map V.str)) hq)
    have hq2 : upd H1 q (.lst (ws.map V.str)) q = some (.lst (ws.map V.str)) := upd_same
    have hF2 := same_new (o := .lst (ws.map V.str)) hq _ _ hF1
    have nqF : q ≠ F := fun e => by rw [e, hF1] at hq; cases hq
    generalize upd H1 q (.lst (ws.map V.str)) = H2 at *
    refine ⟨q, _, false, rfl, SqL.of hq2, fun J GG w hG => ?_⟩
    refine for_it w (fun i σ H' => (∃ v2 : Option V, σ = [some (.str t), some (.ref F), v2]) ∧ Same H H' ∧ H' q = some (.lst (ws.map V.str)) ∧ ∃ ns : List Nat, ns.length = i ∧ (digsD 32 (tl t)).take i = nD ns ∧ H' F = some (.lst (ns.map fun n => V.int (n : Nat))))
      ⟨⟨_, rfl⟩, s2, hq2, [], rfl, rfl, hF2⟩ (fun i σ H' _ h => hG _ (SqL.of h.2.2.1)) (fun i x σ Ha Hb hi hP hY => ?_) (fun σ Ha hP => ?_)
    · obtain ⟨⟨v2, rfl⟩, sa, hqa, ns, ln, en, hFa⟩ := hP
      obtain ⟨rfl, hx⟩ := hY
      rw [List.getElem?_map] at hx
      cases ew : ws[i]? with
      | none => rw [ew] at hx; cases hx
      | some w0 =>
      rw [ew] at hx
      cases hx
      have ed : (digsD 32 (tl t))[i]? = some (wordD (tl w0)) := by
        unfold digsD
        rw [← es, List.getElem?_map, List.getElem?_map, ew]
        rfl
      refine ⟨_, rfl, _, rfl, by decide +kernel, fun q2 hq2 => ?_⟩
      have sq := same_new (o := .lst (Si2.sgs "0123456789")) hq2
      refine ⟨q2, _, rfl, .inl (SqL.of upd_same), rfl, sgs_flat _, _, rfl, ?_⟩
      rcases word_cases (tl w0) with ⟨n, n9, e1, e2⟩ | ⟨e1, e2⟩
      · have e3 : (if true = true then !inV (V.str w0) (Si2.sgs "0123456789") else inV (V.str w0) (Si2.sgs "0123456789")) = false := by
          rw [if_pos rfl, (inV_word w0).mpr ⟨n, n9, e2⟩]
          rfl
        refine iteN e3 ?_
        have e4 : w0 = SX.S [n + 48] := ext_tl e2
        refine ⟨_, rfl, .inl ⟨rfl, _, SqL.of (sq _ _ hFa)⟩, _, rfl, w0, (n : Int), rfl, by rw [e4]; exact dig_txt n9, by rw [len_tl, e2]; exact (by decide : (1 : Nat) ≤ 640), ?_⟩
        refine ⟨F, _, _, rfl, rfl, sq _ _ hFa, small1000 (by rw [List.length_map] at *; omega), ⟨_, rfl⟩, ?_, ?_, ns ++ [n], by rw [List.length_append, ln]; rfl, ?_, ?_⟩
        · exact same_mut (sa.trans sq) hF
        · rw [upd_ne nqF]
          exact sq _ _ hqa
        · rw [List.take_add_one, en, ed, e1]
          unfold nD
          rw [List.map_append]
          rfl
        · rw [upd_same, List.map_append]
          rfl
      · have e3 : (if true = true then !inV (V.str w0) (Si2.sgs "0123456789") else inV (V.str w0) (Si2.sgs "0123456789")) = true := by
          rw [if_pos rfl]
          cases c : inV (V.str w0) (Si2.sgs "0123456789") with
          | false => rfl
          | true =>
            obtain ⟨n, n9, e⟩ := (inV_word w0).mp c
            exact absurd e (e2 n n9)
        refine iteY e3 (k _ _ (sa.trans sq) ?_)
        rw [figD_no fun ns2 e => ?_]
        · exact .non
        have ed := ed
        rw [e, e1] at ed
        unfold nD at ed
        rw [List.getElem?_map] at ed
        cases c : ns2[i]? with
        | none => rw [c] at ed; cases ed
        | some n => rw [c] at ed; cases ed
    · obtain ⟨⟨v2, rfl⟩, sa, hqa, ns, ln, en, hFa⟩ := hP
      rw [take_all (by rw [List.length_map]; omega)] at en
      exact ⟨_, rfl, k _ _ sa (by rw [figD_yes en]; exact .lst trivial hFa (int_ens ns))⟩
end
end K54

namespace K54
open PySem L2 Wm TL Dv De
section
variable {P : Program} {w : World} {K : PySem.W.Frag} {mg : Str → Option Value} {base : Heap}
theorem figD_seq {t : List Nat} {ns : List Nat} (s : seqB (figD t) = true) (h : itm (figD t) = nD ns) : digsD 32 t = nD ns := by
  by_cases c : ∃ ms, digsD 32 t = nD ms
  · obtain ⟨ms, e⟩ := c
    rw [figD_yes e] at h
    rw [e]
    exact h
  · rw [figD_no fun ms e => c ⟨ms, e⟩] at s
    cases s
noncomputable def ofD (b : List Nat) : PyData := if b = [45] then .list [] else figD b
theorem ofD_seq {b : List Nat} {ns : List Nat} (s : seqB (ofD b) = true) (h : itm (ofD b) = nD ns) : b = ordC ns := by
  unfold ofD at s h
  by_cases c : b = [45]
  · rw [if_pos c] at h
    rw [c]
    unfold ordC
    rw [if_pos (List.map_eq_nil_iff.mp (show (nD ns) = [] from h.symm))]
  · rw [if_neg c] at s h
    exact ord_of (by rw [if_neg c]; exact figD_seq s h)
theorem fault_none {n o c w m : PyData} (h : faultW n o c w m = none) : ∃ q, Fit n o c w m q ∧ CdOk q := by
  unfold faultW at h
  by_cases a1 : numB n = true
  case neg => rw [if_neg a1] at h; cases h
  by_cases a2 : orderB o = true
  case neg => rw [if_pos a1, if_neg a2] at h; cases h
  by_cases a3 : countsB c = true
  case neg => rw [if_pos a1, if_pos a2, if_neg a3] at h; cases h
  by_cases a4 : countsB w = true
  case neg => rw [if_pos a1, if_pos a2, if_pos a3, if_neg a4] at h; cases h
  by_cases a5 : movesB m = true
  case neg => rw [if_pos a1, if_pos a2, if_pos a3, if_pos a4, if_neg a5] at h; cases h
  exact fit_of a1 a2 a3 a4 a5
/-- how the law's reader cuts a line -/
theorem law_key {q : Cd} (ok : CdOk q) : spl [32, 47, 32] 0 [] (lineC q) = ((codes q.ds ++ [58, 32]) ++ ordC q.order) :: rowC q.counts :: rowC q.owed :: q.moves.map moveC ∧ spl [58, 32] 0 [] ((codes q.ds ++ [58, 32]) ++ ordC q.order) = [codes q.ds, ordC q.order] := by
  have cf : ∀ s, (s < 49 ∨ 57 < s) → s ∉ codes q.ds := fun s h m => by
    obtain ⟨d, md, e⟩ := List.mem_map.mp m
    have := ok.num.dig d md
    omega
  have pf := fun s h h2 h3 h4 => parts_free ok (s := s) h h2 h3 h4
  constructor
  · have e : lineC q = joinL [32, 47, 32] (((codes q.ds ++ [58, 32]) ++ ordC q.order) :: rowC q.counts :: rowC q.owed :: q.moves.map moveC) := by
      rw [joinL_cons (by simp)]
      unfold lineC partsC
      rw [joinL_cons (p := ordC q.order) (by simp), List.append_assoc, List.append_assoc]
    rw [e]
    refine spl_slash (by simp) fun p m => ?_
    rcases List.mem_cons.mp m with rfl | m
    · intro k
      rcases List.mem_append.mp k with k | k
      · rcases List.mem_append.mp k with k | k
        · exact cf 47 (by decide) k
        · simp at k
      · exact pf 47 (by decide) (by decide) (by decide) (by decide) _ (by unfold partsC; simp) k
    · exact pf 47 (by decide) (by decide) (by decide) (by decide) p (by unfold partsC; exact List.mem_cons_of_mem _ m)
  · have e : (codes q.ds ++ [58, 32]) ++ ordC q.order = joinL [58, 32] [codes q.ds, ordC q.order] := by
      show _ = codes q.ds ++ ([58, 32] ++ ordC q.order)
      rw [List.append_assoc]
    rw [e]
    refine TL.spl_join (by simp) fun p m => ?_
    rcases List.mem_cons.mp m with rfl | m
    · exact cf 58 (by decide)
    · rw [List.mem_singleton.mp m]
      exact pf 58 (by decide) (by decide) (by decide) (by decide) _ (by unfold partsC; simp)
theorem mD_inj {a b : List (Nat × Nat)} (h : a.map mD = b.map mD) : a = b := (List.map_inj_right (fun x y h => by
    obtain ⟨a, b⟩ := x
    obtain ⟨c, d⟩ := y
    have e := PyData.tuple.inj h
    simp only [List.cons.injEq, PyData.int.injEq, and_true] at e
    rw [show a = c by omega, show b = d by omega])).mp h
theorem tup_mD (ms : List (Nat × Nat)) : (ms.map mD).map (fun x => PyData.tuple (itm x)) = ms.map mD := by
  rw [List.map_map]
  rfl
theorem law_line {t p0 p1 p2 a b : List Nat} {ps : List (List Nat)} {ms : List (Nat × Nat)} {q : Cd} (h1 : spl [32, 47, 32] 0 [] t = p0 :: p1 :: p2 :: ps) (h2 : spl [58, 32] 0 [] p0 = [a, b]) (h3 : ps = ms.map moveC)
    (f : Fit (.str (SX.S a)) (ofD b) (figD p1) (figD p2) (.list (ms.map mD)) q) : t = lineC q := by
  obtain ⟨fn, fos, fo, fcs, fc, fws, fw, _, fm, _⟩ := f
  have ea : a = codes q.ds := SX.S_inj (PyData.str.inj fn)
  have eb := ofD_seq fos fo
  have c1 : p1 = rowC q.counts := (digs_of (s := 32) (figD_seq fcs fc)).1
  have c2 : p2 = rowC q.owed := (digs_of (s := 32) (figD_seq fws fw)).1
  have em : ms = q.moves := mD_inj ((tup_mD ms).symm.trans fm)
  have e1 : joinL [32, 47, 32] (p0 :: p1 :: p2 :: ps) = t := by rw [← h1]; exact join_spl (by simp)
  have e2 : joinL [58, 32] [a, b] = p0 := by rw [← h2]; exact join_spl (by simp)
  have e2 : a ++ ([58, 32] ++ b) = p0 := e2
  rw [← e1, ← e2, ea, eb, c1, c2, h3, em, joinL_cons (by simp)]
  unfold lineC partsC
  rw [joinL_cons (p := ordC q.order) (by simp), List.append_assoc, List.append_assoc]
theorem Fit.law {q : Cd} (ok : CdOk q) : Fit (.str (SX.S (codes q.ds))) (ofD (ordC q.order)) (figD (rowC q.counts)) (figD (rowC q.owed)) (.list (q.moves.map mD)) q := by
  have e0 : ofD (ordC q.order) = .list (nD q.order) := by
    unfold ofD
    have h := of_ord (ns := q.order) fun n m => Nat.le_trans (ok.ord n m) (by decide)
    by_cases c : ordC q.order = [45]
    · rw [if_pos c] at h ⊢
      rw [← h]
    · rw [if_neg c] at h ⊢
      exact figD_yes h
  have e1 : figD (rowC q.counts) = .list (nD q.counts) := figD_yes (of_digs (three_ne ok.c3) (fun n m => Nat.le_trans (ok.c6 n m) (by decide)) (by decide))
  have e2 : figD (rowC q.owed) = .list (nD q.owed) := figD_yes (of_digs (three_ne ok.o3) (fun n m => Nat.le_trans (ok.o6 n m) (by decide)) (by decide))
  rw [e0, e1, e2]
  refine ⟨rfl, rfl, rfl, rfl, rfl, rfl, rfl, rfl, tup_mD _, fun x m => ?_⟩
  obtain ⟨y, _, rfl⟩ := List.mem_map.mp (show x ∈ q.moves.map mD from m)
  rfl
end
end K54

namespace K54
open PySem L2 Wm TL Dv De
section
variable {P : Program} {w : World} {K : PySem.W.Frag} {mg : Str → Option Value} {base : Heap}
theorem En.apart {H H' : Hp} {M : Addr} {v : V} {d : PyData} (h : En K (fun _ => True) H v d) (n : H M = none) (s : Same H H') : En K (fun a => a ≠ M) H' v d := En.kk (Kt.same s) (fun a o _ e => ⟨fun z => (by rw [z, n] at e; cases e), s _ _ e⟩) d v h
theorem En.past {H H' : Hp} {M : Addr} {v : V} {d : PyData} (h : En K (fun a => a ≠ M) H v d) (k : Kt K H H') (s : ∀ a o, a ≠ M → H a = some o → H' a = some o) : En K (fun a => a ≠ M) H' v d := En.kk k (fun a o n e => ⟨n, s a o n e⟩) d v h
theorem words_len {t y : Str} {S : List Nat} (hb : tl y = S) (hs : S ≠ []) (h : S.all (· < 256) = true) : ∀ w ∈ Txt.split t y, w.length ≤ t.length := fun w0 m => by
  have e := mem_len (S := S) (List.mem_map_of_mem (f := tl) m)
  rw [split_tl hb hs h, join_spl hs, ← len_tl, ← len_tl] at e
  exact e
theorem split_num {t y : Str} {S : List Nat} (hb : tl y = S) (hs : S ≠ []) (h : S.all (· < 256) = true) : (Txt.split t y).length ≤ t.length + 1 := by
  have e := num_len (S := S) (p := []) (ps := (Txt.split t y).map tl) hs
  rw [List.length_map, split_tl hb hs h, join_spl hs, ← len_tl] at e
  exact e
theorem mv_spl {x : Nat × Nat} (l1 : x.1 ≤ 9) (l2 : x.2 ≤ 9) : spl [62] 0 [] (moveC x) = [[x.1 + 48], [x.2 + 48]] := by
  have e := TL.spl_join (s := 62) (S := []) (parts := sgn [x.1, x.2]) (sgn_ne (by simp)) (sgn_free (fun n m => by
    rcases List.mem_cons.mp m with rfl | m
    · exact l1
    · rw [List.mem_singleton.mp m]; exact l2) (by decide))
  exact e
theorem ok_read (T : Txt K mg) : FnOk P w K mg base CX0 5 T.a_read T.d_read ["_law_text"] (sp_read K) := by
  refine T.F_read.ok sc_read (fun vs H Q E h => ?_) (fun cdv A outer s H vs Q E hr h => ?_)
  · obtain ⟨t, rfl, _⟩ := h
    rfl
  · obtain ⟨t, rfl, lt, kz⟩ := h
    have ky : ∀ q, CdOk q → t = lineT q → ∀ H' l n o c w m, Same H H' → Five K (fun _ => True) H' l n o c w m → Fit n o c w m q → Q (.ref l) H' := fun q ok e H' l n o c w m s f g => kz H' _ s (.inl ⟨q, l, n, o, c, w, m, ok, e, rfl, f, g⟩)
    have kn : (∀ q, CdOk q → t ≠ lineT q) → ∀ H', Same H H' → Q .non H' := fun no H' s => kz H' _ s (.inr ⟨no, rfl⟩)
    have tcs : tl (": " : Str) = [58, 32] := by decide +kernel
    have tgt : tl (">" : Str) = [62] := by decide +kernel
    obtain ⟨lp, lw⟩ := split3_len t
    have sp := split3 (t := t)
    refine ⟨_, (pss_cons (ps_set (i := 1) sc_read.nd rfl (Or.inl rfl) (pe_split (pv 0) pe_str))
      (pss_cons (ps_set (i := 2) sc_read.nd rfl (Or.inl rfl) (pe_split (pe_ix ix_list (pv 1) pe_int (fun _ _ => rfl)) pe_str))
      (pss_cons (ps_if (PW.pt (pw_or (pt_cmpR op_lt (pe_callB call_len_seq (by rfl) T.z_len PySem.boot_len (pa_cons (pv 1) pa_nil)) pe_int (nomark _)) (pw_or1 (pt_cmpR op_ne (pe_callB call_len_seq (by rfl) T.z_len PySem.boot_len (pa_cons (pv 2) pa_nil)) pe_int (nomark _)))))
        (pss_one (ps_ret pe_non))
        pss_nil)
      (pss_cons (ps_set (i := 3) sc_read.nd rfl (Or.inl rfl) (pe_ifExp (pt_cmpR op_eq (pe_ix ix_list (pv 2) pe_int (fun _ _ => rfl)) pe_str (nomark _)) (pe_lst pa_nil) (pe_call (ok_figures T) (hr.mono (by decide)) (by rfl) T.g_figures T.F_figures.kp T.b_figures .nil pass0 (pa_cons (pe_ix ix_list (pv 2) pe_int (fun _ _ => rfl)) pa_nil))))
      (pss_cons (ps_set (i := 4) sc_read.nd rfl (Or.inl rfl) (pe_lst (pa_cons (pe_ix ix_list (pv 2) pe_int (fun _ _ => rfl)) (pa_cons (pv 3) (pa_cons (pe_call (ok_figures T) (hr.mono (by decide)) (by rfl) T.g_figures T.F_figures.kp T.b_figures .nil pass0 (pa_cons (pe_ix ix_list (pv 1) pe_int (fun _ _ => rfl)) pa_nil)) (pa_cons (pe_call (ok_figures T) (hr.mono (by decide)) (by rfl) T.g_figures T.F_figures.kp T.b_figures .nil pass0 (pa_cons (pe_ix ix_list (pv 1) pe_int (fun _ _ => rfl)) pa_nil)) (pa_cons (pe_lst pa_nil) pa_nil)))))))
      (pss_cons (ps_for PassesOwn.never rfl (Kd.pi_seq (pe_slice sl_list (pv 1) (po_some pe_int) po_none)) (pg_name (i := 5) sc_read.nd rfl (Or.inl rfl))
        (pss_cons (ps_set (i := 6) sc_read.nd rfl (Or.inl rfl) (pe_split (pv 5) pe_str))
        (pss_cons (ps_if (PW.pt (pw_or (pt_cmpR op_ne (pe_callB call_len_seq (by rfl) T.z_len PySem.boot_len (pa_cons (pv 6) pa_nil)) pe_int (nomark _)) (pw_or (pt_cmpR op_notIn_seq (pe_ix ix_list (pv 6) pe_int (fun _ _ => rfl)) (pe_callTy (St2.call_listS rfl) (by rfl) T.z_list (by decide +kernel) (pa_cons pe_str pa_nil)) rfl) (pw_or1 (pt_cmpR op_notIn_seq (pe_ix ix_list (pv 6) pe_int (fun _ _ => rfl)) (pe_callTy (St2.call_listS rfl) (by rfl) T.z_list (by decide +kernel) (pa_cons pe_str pa_nil)) rfl)))))
          (pss_one (ps_ret pe_non))
          pss_nil)
        (pss_one (ps_expr (pe_bm PySem.F.plainAttrs_list PySem.F.slot_list_append PySem.F.type_list_append mt_append (pe_ix ix_list (pv 4) pe_int (fun _ _ => rfl)) (pa_cons (pe_tup (pa_cons (pe_callTy call_int_str (by rfl) T.z_int (by decide +kernel) (pa_cons (pe_ix ix_list (pv 6) pe_int (fun _ _ => rfl)) pa_nil)) (pa_cons (pe_callTy call_int_str (by rfl) T.z_int (by decide +kernel) (pa_cons (pe_ix ix_list (pv 6) pe_int (fun _ _ => rfl)) pa_nil)) pa_nil))) pa_nil)))))))
      (pss_one (ps_ret (pe_ifExp (pt_cmpR op_isN (pe_call (ok_fault T) (hr.mono (by decide)) (by rfl) T.g_fault T.F_fault.kp T.b_fault .nil pass0 (pa_cons (pv 4) pa_nil)) pe_non (nomark _)) (pv 4) pe_non))))))))), ?_⟩
    refine ⟨_, rfl, ⟨_, rfl⟩, t, _, rfl, rfl, by decide +kernel, small_len (by omega), fun L1 hL1 => ?_⟩
    rw [show (Str.ofString " / " : Str) = (" / " : Str) from rfl]
    generalize Txt.split t " / " = ps at *
    have s1 := same_new (o := .lst (ps.map V.str)) hL1
    have hL1 : upd H L1 (.lst (ps.map V.str)) L1 = some (.lst (ps.map V.str)) := upd_same
    generalize upd H L1 (.lst (ps.map V.str)) = H1 at *
    obtain ⟨w0, wr, rfl⟩ : ∃ w0 wr, ps = w0 :: wr := by
      cases ps with
      | nil => exact absurd sp.symm (spl_ne _ _ _)
      | cons a b => exact ⟨a, b, rfl⟩
    have lw0 := lw w0 (by simp)
    have sp2 := split_tl (t := w0) tcs (by simp) (by decide)
    have lq := words_len (t := w0) tcs (by simp) (by decide)
    refine ⟨_, rfl, L1, _, 0, _, rfl, rfl, SqL.of hL1, atI_nat (j := 0) rfl, ⟨_, rfl⟩, w0, _, rfl, rfl, by decide +kernel, small_len (by omega), fun L2 hL2 => ?_⟩
    rw [show (Str.ofString ": " : Str) = (": " : Str) from rfl]
    have ln2 := split_num (t := w0) tcs (by simp) (by decide)
    generalize Txt.split w0 ": " = qs at *
    have s2 := s1.trans (same_new (o := .lst (qs.map V.str)) hL2)
    have hL1 := same_new (o := .lst (qs.map V.str)) hL2 _ _ hL1
    have hL2 : upd H1 L2 (.lst (qs.map V.str)) L2 = some (.lst (qs.map V.str)) := upd_same
    generalize upd H1 L2 (.lst (qs.map V.str)) = H2 at *
    have key : ∀ q, CdOk q → t = lineT q → (w0 :: wr).map tl = ((codes q.ds ++ [58, 32]) ++ ordC q.order) :: rowC q.counts :: rowC q.owed :: q.moves.map moveC ∧ qs.map tl = [codes q.ds, ordC q.order] := fun q ok e => by
      obtain ⟨k1, k2⟩ := law_key ok
      have e2 : tl t = lineC q := by rw [e]; rfl
      have e3 : (w0 :: wr).map tl = ((codes q.ds ++ [58, 32]) ++ ordC q.order) :: rowC q.counts :: rowC q.owed :: q.moves.map moveC := by rw [sp, e2]; exact k1
      refine ⟨e3, ?_⟩
      rw [sp2, show tl w0 = (codes q.ds ++ [58, 32]) ++ ordC q.order from (List.cons.inj e3).1]
      exact k2
    refine ⟨_, rfl, L1, _, rfl, .inl (SqL.of hL1), _, _, rfl, rfl, _, rfl, ?_⟩
    by_cases c1 : (w0 :: wr).length < 3
    · rw [decide_eq_true (by rw [List.length_map]; omega)]
      refine iteT (iteT (kn (fun q ok e => ?_) _ s2))
      have e := congrArg List.length (key q ok e).1
      simp only [List.length_map, List.length_cons] at e c1
      omega
    rw [decide_eq_false (by rw [List.length_map]; omega)]
    refine iteF ⟨_, rfl, L2, _, rfl, .inl (SqL.of hL2), rfl, _, rfl, ?_⟩
    by_cases c2 : qs.length = 2
    case neg =>
      rw [decide_eq_false (by intro e; rw [List.length_map] at e; exact c2 (by have := V.int.inj e; omega))]
      refine iteT (kn (fun q ok e => c2 ?_) _ s2)
      have e := congrArg List.length (key q ok e).2
      rw [List.length_map] at e
      exact e
    rw [decide_eq_true (by rw [List.length_map, c2]; rfl)]
    obtain ⟨wa, wb, rfl⟩ : ∃ wa wb, qs = [wa, wb] := by
      match qs, c2 with
      | [a, b], _ => exact ⟨a, b, rfl⟩
    obtain ⟨w1, w2, wr, rfl⟩ : ∃ w1 w2 wr2, wr = w1 :: w2 :: wr2 := by
      match wr, c1 with
      | w1 :: w2 :: wr, _ => exact ⟨w1, w2, wr, rfl⟩
      | [], c => exact absurd (by simp) c
      | [_], c => exact absurd (by simp) c
    have la := lq wa (by simp)
    have lb := lq wb (by simp)
    have lw1 := lw w1 (by simp)
    have lw2 := lw w2 (by simp)
    refine iteF ⟨_, rfl, L2, _, 1, _, rfl, rfl, SqL.of hL2, atI_nat (j := 1) rfl, rfl, _, rfl, ?_⟩
    refine ifExp_k (G := fun x Hx => Same H2 Hx ∧ En K (fun _ => True) Hx x (ofD (tl wb))) (fun c Q kq => ?_) (fun c Q kq => ?_) (fun x2 H3 hx => ?_)
    · have c := (dash_eq wb).mp (V.str.inj (of_decide_eq_true c))
      refine ⟨small_len (by show 0 ≤ 100000; decide), fun D hD => kq _ _ ⟨same_new hD, ?_⟩⟩
      unfold ofD
      rw [if_pos c]
      exact .lst trivial upd_same .nil
    · have c : ¬ tl wb = [45] := fun e => of_decide_eq_false c (congrArg V.str ((dash_eq wb).mpr e))
      refine ⟨_, rfl, L2, _, 1, _, rfl, rfl, SqL.of hL2, atI_nat (j := 1) rfl, wb, rfl, by omega, fun H' v s hv => kq _ _ ⟨s, ?_⟩⟩
      unfold ofD
      rw [if_neg c]
      exact hv
    obtain ⟨s3, e2⟩ := hx
    refine ⟨_, rfl, L2, _, 0, _, rfl, rfl, SqL.of (s3 _ _ hL2), atI_nat (j := 0) rfl, _, rfl, _, rfl, L1, _, 1, _, rfl, rfl, SqL.of (s3 _ _ hL1), atI_nat (j := 1) rfl, w1, rfl, by omega, fun H4 x3 s4 e3 => ?_⟩
    have s34 := s4
    have s4 := s3.trans s4
    refine ⟨_, rfl, L1, _, 2, _, rfl, rfl, SqL.of (s4 _ _ hL1), atI_nat (j := 2) rfl, w2, rfl, by omega, fun H5 x4 s5 e4 => ?_⟩
    have s45 := s5
    have s5 := s4.trans s5
    refine ⟨small_len (by show 0 ≤ 100000; decide), fun M hM => ⟨small_len (by show 5 ≤ 100000; decide), fun Pp hPp => ?_⟩⟩
    have s6 : Same H5 (upd H5 M (.lst [])) := same_new hM
    have s7 : Same (upd H5 M (.lst [])) (upd (upd H5 M (.lst [])) Pp (.lst [.str wa, x2, x3, x4, .ref M])) := same_new hPp
    have s67 := s6.trans s7
    have nMP : M ≠ Pp := fun e => by rw [← e, upd_same] at hPp; cases hPp
    have hPP : upd (upd H5 M (.lst [])) Pp (.lst [.str wa, x2, x3, x4, .ref M]) Pp = some (.lst [.str wa, x2, x3, x4, .ref M]) := upd_same
    have hMM : upd (upd H5 M (.lst [])) Pp (.lst [.str wa, x2, x3, x4, .ref M]) M = some (.lst []) := by rw [upd_ne nMP]; exact upd_same
    have nM0 : H M = none := by
      cases e : H M with
      | none => rfl
      | some o => rw [(s2.trans s5) _ _ e] at hM; cases hM
    have nP0 : H Pp = none := by
      cases e : H Pp with
      | none => rfl
      | some o => rw [s6 _ _ ((s2.trans s5) _ _ e)] at hPp; cases hPp
    have y2 : En K (fun a => a ≠ M) (upd (upd H5 M (.lst [])) Pp (.lst [.str wa, x2, x3, x4, .ref M])) x2 (ofD (tl wb)) := En.apart (e2.ks (s34.trans s45)) hM s67
    have y3 : En K (fun a => a ≠ M) (upd (upd H5 M (.lst [])) Pp (.lst [.str wa, x2, x3, x4, .ref M])) x3 (figD (tl w1)) := En.apart (e3.ks s45) hM s67
    have y4 : En K (fun a => a ≠ M) (upd (upd H5 M (.lst [])) Pp (.lst [.str wa, x2, x3, x4, .ref M])) x4 (figD (tl w2)) := En.apart e4 hM s67
    have s7 := (s2.trans s5).trans s67
    have hL1 := (s5.trans s67) _ _ hL1
    generalize upd (upd H5 M (.lst [])) Pp (.lst [.str wa, x2, x3, x4, .ref M]) = H7 at *
    refine ⟨_, rfl, 3, rfl, L1, _, rfl, SqL.of hL1, fun Sx hSx => ?_⟩
    rw [show cutV ((w0 :: w1 :: w2 :: wr).map V.str) (some 3) none = wr.map V.str from cut_from _ 3 (by simp)]
    have s8 := same_new (o := .lst (wr.map V.str)) hSx
    have hS8 : upd H7 Sx (.lst (wr.map V.str)) Sx = some (.lst (wr.map V.str)) := upd_same
    have nSM : Sx ≠ M := fun e => by rw [e, hMM] at hSx; cases hSx
    have hMM := s8 _ _ hMM
    have hPP := s8 _ _ hPP
    have y2 := En.past y2 (Kt.same s8) (fun a o _ e => s8 a o e)
    have y3 := En.past y3 (Kt.same s8) (fun a o _ e => s8 a o e)
    have y4 := En.past y4 (Kt.same s8) (fun a o _ e => s8 a o e)
    have s8 := s7.trans s8
    generalize upd H7 Sx (.lst (wr.map V.str)) = H8 at *
    refine ⟨Sx, _, false, rfl, SqL.of hS8, fun J GG w hG => ?_⟩
    refine for_it w (fun i σ H' => (∃ v5 v6 : Option V, σ = [some (.str t), some (.ref L1), some (.ref L2), some x2, some (.ref Pp), v5, v6]) ∧ Same H H' ∧ H' Sx = some (.lst (wr.map V.str)) ∧ H' Pp = some (.lst [.str wa, x2, x3, x4, .ref M]) ∧
        En K (fun a => a ≠ M) H' x2 (ofD (tl wb)) ∧ En K (fun a => a ≠ M) H' x3 (figD (tl w1)) ∧ En K (fun a => a ≠ M) H' x4 (figD (tl w2)) ∧
        ∃ (ms : List (Nat × Nat)) (vals : List V), ms.length = i ∧ vals.length = i ∧ (wr.take i).map tl = ms.map moveC ∧ H' M = some (.lst vals) ∧ Dts K H' vals (ms.map mD))
      ⟨⟨_, _, rfl⟩, s8, hS8, hPP, y2, y3, y4, [], [], rfl, rfl, rfl, hMM, .nil⟩ (fun i σ H' _ h => hG _ (SqL.of h.2.2.1)) (fun i x σ Ha Hb hi hP hY => ?_) (fun σ Ha hP => ?_)
    · obtain ⟨⟨v5, v6, rfl⟩, sa, hSa, hPa, z2, z3, z4, ms, vals, lms, lvs, em, hMa, dM⟩ := hP
      obtain ⟨rfl, hx⟩ := hY
      rw [List.getElem?_map] at hx
      cases ew : wr[i]? with
      | none => rw [ew] at hx; cases hx
      | some wi =>
      rw [ew] at hx
      cases hx
      have lwi := lw wi (by have := List.mem_of_getElem? ew; simp [this])
      have spi := split_tl (t := wi) tgt (by simp) (by decide)
      have lni := split_num (t := wi) tgt (by simp) (by decide)
      refine ⟨_, rfl, ⟨_, rfl⟩, wi, _, rfl, rfl, by decide +kernel, small_len (by omega), fun L6 hL6 => ?_⟩
      rw [show (Str.ofString ">" : Str) = (">" : Str) from rfl]
      generalize Txt.split wi ">" = tw at *
      have bad : ∀ q, CdOk q → t = lineT q → ∃ x : Nat × Nat, x.1 ≤ 9 ∧ x.2 ≤ 9 ∧ tw.map tl = [[x.1 + 48], [x.2 + 48]] := fun q ok e => by
        have e1 := (key q ok e).1
        simp only [List.map_cons, List.cons.injEq] at e1
        have e2 := congrArg (fun l => l[i]?) e1.2.2.2
        simp only [List.getElem?_map, ew] at e2
        cases e3 : q.moves[i]? with
        | none => rw [e3] at e2; cases e2
        | some x =>
          rw [e3] at e2
          have e2 : tl wi = moveC x := Option.some.inj e2
          have := ok.mv x (List.mem_of_getElem? e3)
          exact ⟨x, by omega, by omega, by rw [spi, e2]; exact mv_spl (by omega) (by omega)⟩
      have s9 := same_new (o := .lst (tw.map V.str)) hL6
      have hL6 : upd Hb L6 (.lst (tw.map V.str)) L6 = some (.lst (tw.map V.str)) := upd_same
      have sb := sa.trans s9
      have hSa := s9 _ _ hSa
      have hPa := s9 _ _ hPa
      have hMa := s9 _ _ hMa
      have z2 := En.past z2 (Kt.same s9) (fun a o _ e => s9 a o e)
      have z3 := En.past z3 (Kt.same s9) (fun a o _ e => s9 a o e)
      have z4 := En.past z4 (Kt.same s9) (fun a o _ e => s9 a o e)
      have dM := dM.k (Kt.same s9)
      generalize upd Hb L6 (.lst (tw.map V.str)) = Hc at *
      refine ⟨_, rfl, L6, _, rfl, .inl (SqL.of hL6), rfl, _, rfl, ?_⟩
      by_cases c2 : tw.length = 2
      case neg =>
        rw [decide_eq_false (by intro e; rw [List.length_map] at e; exact c2 (by have := V.int.inj e; omega))]
        refine iteT (iteT (kn (fun q ok e => c2 ?_) _ sb))
        obtain ⟨x, _, _, e⟩ := bad q ok e
        have e := congrArg List.length e
        rw [List.length_map] at e
        exact e
      rw [decide_eq_true (by rw [List.length_map, c2]; rfl)]
      obtain ⟨ta, tb, rfl⟩ : ∃ ta tb, tw = [ta, tb] := by
        match tw, c2 with
        | [a, b], _ => exact ⟨a, b, rfl⟩
      have inN : ∀ w0 : Str, (∃ n : Nat, n ≤ 9 ∧ tl w0 = [n + 48]) → (if true = true then !inV (V.str w0) (Si2.sgs "0123456789") else inV (V.str w0) (Si2.sgs "0123456789")) = false := fun w0 h => by
        rw [if_pos rfl, (inV_word w0).mpr h]
        rfl
      have inY : ∀ w0 : Str, (∀ n : Nat, n ≤ 9 → tl w0 ≠ [n + 48]) → (if true = true then !inV (V.str w0) (Si2.sgs "0123456789") else inV (V.str w0) (Si2.sgs "0123456789")) = true := fun w0 h => by
        rw [if_pos rfl]
        cases c : inV (V.str w0) (Si2.sgs "0123456789") with
        | false => rfl
        | true =>
          obtain ⟨n, n9, e⟩ := (inV_word w0).mp c
          exact absurd e (h n n9)
      refine iteF ⟨_, rfl, L6, _, 0, _, rfl, rfl, SqL.of hL6, atI_nat (j := 0) rfl, _, rfl, by decide +kernel, fun q2 hq2 => ⟨q2, _, rfl, .inl (SqL.of upd_same), rfl, sgs_flat _, _, rfl, ?_⟩⟩
      have sq := same_new (o := .lst (Si2.sgs "0123456789")) hq2
      rcases word_cases (tl ta) with ⟨n1, n19, _, et1⟩ | ⟨_, ne1⟩
      case inr =>
        refine iteY (inY ta ne1) (iteT (kn (fun q ok e => ?_) _ (sb.trans sq)))
        obtain ⟨x, h1, _, e⟩ := bad q ok e
        exact ne1 _ h1 (List.cons.inj e).1
      refine iteN (inN ta ⟨n1, n19, et1⟩) ?_
      have sc := sb.trans sq
      refine ⟨_, rfl, L6, _, 1, _, rfl, rfl, SqL.of (sq _ _ hL6), atI_nat (j := 1) rfl, _, rfl, by decide +kernel, fun q3 hq3 => ⟨q3, _, rfl, .inl (SqL.of upd_same), rfl, sgs_flat _, _, rfl, ?_⟩⟩
      have sq3 := same_new (o := .lst (Si2.sgs "0123456789")) hq3
      rcases word_cases (tl tb) with ⟨n2, n29, _, et2⟩ | ⟨_, ne2⟩
      case inr =>
        refine iteY (inY tb ne2) (kn (fun q ok e => ?_) _ (sc.trans sq3))
        obtain ⟨x, _, h2, e⟩ := bad q ok e
        exact ne2 _ h2 (List.cons.inj (List.cons.inj e).2).1
      refine iteN (inN tb ⟨n2, n29, et2⟩) ?_
      have sd := sc.trans sq3
      have sr := sq.trans sq3
      have et1 : ta = SX.S [n1 + 48] := ext_tl et1
      have et2 : tb = SX.S [n2 + 48] := ext_tl et2
      generalize upd (upd Hc q2 (.lst (Si2.sgs "0123456789"))) q3 (.lst (Si2.sgs "0123456789")) = Hd at *
      have hM9 : M = M := rfl
      refine ⟨_, rfl, Pp, _, 4, _, rfl, rfl, SqL.of (sr _ _ hPa), atI_nat (j := 4) rfl, .inl ⟨rfl, _, SqL.of (sr _ _ hMa)⟩, ?_⟩
      refine ⟨_, rfl, L6, _, 0, _, rfl, rfl, SqL.of (sr _ _ hL6), atI_nat (j := 0) rfl, ta, (n1 : Int), rfl, by rw [et1]; exact dig_txt n19, by rw [et1]; exact (by decide : (1 : Nat) ≤ 640), ?_⟩
      refine ⟨_, rfl, L6, _, 1, _, rfl, rfl, SqL.of (sr _ _ hL6), atI_nat (j := 1) rfl, tb, (n2 : Int), rfl, by rw [et2]; exact dig_txt n29, by rw [et2]; exact (by decide : (1 : Nat) ≤ 640), small_len (by show 2 ≤ 100000; decide), fun tp htp => ?_⟩
      have st := same_new (o := .tup [.int (n1 : Int), .int (n2 : Int)]) htp
      have sx := sr.trans st
      have hTp : SqT K (upd Hd tp (.tup [.int (n1 : Int), .int (n2 : Int)])) tp [.int (n1 : Int), .int (n2 : Int)] := .inl (.inl upd_same)
      have se := sd.trans st
      generalize upd Hd tp (.tup [.int (n1 : Int), .int (n2 : Int)]) = He at *
      have hMe := sx _ _ hMa
      have kt : Kt K He (upd He M (.lst (vals ++ [.ref tp]))) := Kt.lst hMe
      have off : ∀ a o, a ≠ M → He a = some o → upd He M (.lst (vals ++ [.ref tp])) a = some o := fun a o n e => by rw [upd_ne n]; exact e
      have nPM : Pp ≠ M := fun e => nMP e.symm
      have kx : Kt K Hc He := Kt.same sx
      have ox : ∀ a o, a ≠ M → Hc a = some o → He a = some o := fun a o _ e => sx a o e
      have dD : Dt K He (.ref tp) (mD (n1, n2)) := .tup hTp (.cons (.int _) (.cons (.int _) .nil))
      refine ⟨M, vals, _, rfl, rfl, hMe, small1000 (by have lp := lp; simp only [List.length_cons] at lp; rw [List.length_map] at hi; omega), ⟨_, _, rfl⟩, same_mut se nM0, off _ _ nSM (sx _ _ hSa), off _ _ nPM (sx _ _ hPa), En.past (En.past z2 kx ox) kt off, En.past (En.past z3 kx ox) kt off, En.past (En.past z4 kx ox) kt off, ms ++ [(n1, n2)], vals ++ [.ref tp], by rw [List.length_append, lms]; rfl, by rw [List.length_append, lvs]; rfl, ?_, upd_same, ?_⟩
      · have ei : tl wi = moveC (n1, n2) := by
          have e := join_spl (S := [62]) (l := tl wi) (by simp)
          rw [← spi] at e
          rw [← e, et1, et2]
          rfl
        rw [List.take_add_one, ew, List.map_append, em, List.map_append]
        show _ ++ [tl wi] = _
        rw [ei]
        rfl
      · rw [List.map_append]
        exact ((dM.k kx).k kt).app (.cons (dD.k kt) .nil)
    · obtain ⟨⟨v5, v6, rfl⟩, sa, hSa, hPa, z2, z3, z4, ms, vals, lms, lvs, em, hMa, dM⟩ := hP
      rw [List.length_map, List.take_length] at em
      have wk : ∀ {v d}, En K (fun a => a ≠ M) Ha v d → En K (fun _ => True) Ha v d := fun h => En.kk Kt.refl (fun a o _ e => ⟨trivial, e⟩) _ _ h
      have eM : En K (fun _ => True) Ha (.ref M) (.list (ms.map mD)) := .lst trivial hMa (Ens.ofDts _ _ dM)
      have F5 : Five K (fun _ => True) Ha Pp (.str wa) (ofD (tl wb)) (figD (tl w1)) (figD (tl w2)) (.list (ms.map mD)) := ⟨_, _, _, _, _, hPa, .str wa, wk z2, wk z3, wk z4, eM⟩
      have law : ∀ q, Fit (.str wa) (ofD (tl wb)) (figD (tl w1)) (figD (tl w2)) (.list (ms.map mD)) q → t = lineT q := fun q f => by
        refine ext_tl (law_line (a := tl wa) (b := tl wb) (ms := ms) sp.symm ?_ em ?_)
        · exact sp2.symm
        · rw [show SX.S (tl wa) = wa from mk_tl wa]
          exact f
      refine ⟨_, rfl, Pp, _, _, _, _, _, fun _ => True, rfl, F5, fun t2 e => by cases e; omega, fun H9 s9 => ⟨rfl, _, rfl, ?_⟩⟩
      have sz := sa.trans s9
      cases c : faultW (.str wa) (ofD (tl wb)) (figD (tl w1)) (figD (tl w2)) (.list (ms.map mD)) with
      | none =>
        obtain ⟨q, fit, ok⟩ := fault_none c
        refine iteT ⟨_, rfl, ?_⟩
        obtain ⟨a1, a2, a3, a4, a5, b0, b1, b2, b3, b4, b5⟩ := F5
        exact ky q ok (law q fit) H9 Pp _ _ _ _ _ sz ⟨a1, a2, a3, a4, a5, s9 _ _ b0, b1.ks s9, b2.ks s9, b3.ks s9, b4.ks s9, b5.ks s9⟩ fit
      | some z =>
        refine iteF (kn (fun q ok e => ?_) _ sz)
        obtain ⟨k1, k2⟩ := key q ok e
        simp only [List.map_cons, List.map_nil, List.cons.injEq, and_true] at k1 k2
        have f := (Fit.law ok).fault ok
        have em2 : ms = q.moves := by
          have e := em.symm.trans k1.2.2.2
          exact (List.map_inj_right (fun x y h => by
            obtain ⟨a, b⟩ := x
            obtain ⟨c, d⟩ := y
            unfold moveC at h
            simp only [List.cons.injEq, and_true, true_and] at h
            rw [show a = c by omega, show b = d by omega])).mp e
        have ea : SX.S (codes q.ds) = wa := by rw [← k2.1]
        rw [ea, ← k2.2, ← k1.2.1, ← k1.2.2.1, ← em2, c] at f
        cases f
end
end K54

namespace K54
open PySem L2 Wm TL Dv De
section
variable {P : Program} {w : World} {K : PySem.W.Frag} {mg : Str → Option Value} {base : Heap}
def nV (ns : List Nat) : List V := ns.map fun (n : Nat) => V.int (n : Int)
theorem nV_at {ns : List Nat} {i n : Nat} (h : ns[i]? = some n) : (nV ns)[i]? = some (.int (n : Nat)) := by unfold nV; rw [List.getElem?_map, h]; rfl
theorem nV_len (ns : List Nat) : (nV ns).length = ns.length := by unfold nV; rw [List.length_map]
theorem Off.new {p C : Addr} {A B : Hp} {o : HO} (h : Off p A B) (f : A C = none) : Off p A (upd B C o) := fun q u n e => by
  have : q ≠ C := fun z => by subst z; rw [f] at e; cases e
  rw [upd_ne this]
  exact h q u n e
theorem Off.none {p C : Addr} {A B : Hp} (h : Off p A B) (n : C ≠ p) (f : B C = none) : A C = none := by
  cases e : A C with
  | none => rfl
  | some o => rw [h _ _ n e] at f; cases f
theorem nV_erase : ∀ (ns : List Nat) (d : Nat), (nV ns).eraseIdx d = nV (ns.eraseIdx d)
  | [], _ => rfl
  | _ :: _, 0 => rfl
  | n :: ns, d + 1 => by
    show V.int (n : Nat) :: (nV ns).eraseIdx d = V.int (n : Nat) :: nV (ns.eraseIdx d)
    rw [nV_erase ns d]
theorem nV_snoc (ns : List Nat) (d : Nat) : nV ns ++ [V.int ((d : Nat) : Int)] = nV (ns ++ [d]) := by unfold nV; rw [List.map_append]; rfl
theorem erase_perm {x : Nat} : ∀ {cr : List Nat} {d : Nat}, cr[d]? = some x → (x :: cr.eraseIdx d).Perm cr
  | [], _, h => by simp at h
  | y :: ys, 0, h => by
    have h : y = x := by simpa using h
    subst h
    exact List.Perm.refl _
  | y :: ys, d + 1, h => by
    have ih := erase_perm (cr := ys) (d := d) (x := x) (by simpa using h)
    show (x :: y :: ys.eraseIdx d).Perm (y :: ys)
    exact (List.Perm.swap y x _).trans (ih.cons y)
theorem pop_perm {cr od xs : List Nat} {d x : Nat} (h : (cr ++ od).Perm xs) (hd : cr[d]? = some x) : (cr.eraseIdx d ++ (od ++ [x])).Perm xs := by
  refine List.Perm.trans ?_ h
  have p2 : (cr.eraseIdx d ++ (od ++ [x])).Perm (x :: (cr.eraseIdx d ++ od)) := by
    rw [← List.append_assoc]
    exact List.perm_append_comm
  exact p2.trans ((erase_perm hd).append_right od)
theorem rg_nV (m : Nat) : rgV 0 (m : Nat) = nV (List.range m) := by
  unfold rgV nV
  rw [show ((m : Int) - 0).toNat = m by omega]
  exact List.map_congr_left fun i _ => by rw [Int.zero_add]
theorem Bk.kt {H H' : Hp} {b : Addr} (h : Bk H b) (o : Off b H H') : Kt K H H' := fun a xs q => by
  obtain ⟨x, y, e, _⟩ := h
  rcases q with (q | ⟨ob, q⟩) | q
  · exact .inl (.inl (o a _ (fun z => by rw [z, e] at q; cases q) q))
  · exact .inl (.inr ⟨ob, o a _ (fun z => by rw [z, e] at q; cases q) q⟩)
  · exact .inr q
theorem En.off {H H' : Hp} {b : Addr} {v : V} {d : PyData} (h : En K (Nz b) H v d) (hb : Bk H b) (o : Off b H H') : En K (Nz b) H' v d := En.kk (hb.kt o) (fun a u n e => ⟨n, o a u n.2 e⟩) d v h
def Nf (b : Addr) (H0 : Hp) : Addr → Prop := fun a => a ≠ sysModules ∧ a ≠ b ∧ H0 a = none
theorem En.offF {H0 H H' : Hp} {b : Addr} {v : V} {d : PyData} (h : En K (Nf b H0) H v d) (hb : Bk H b) (o : Off b H H') : En K (Nf b H0) H' v d := En.kk (hb.kt o) (fun a u n e => ⟨n, o a u n.2.1 e⟩) d v h
def seqD (t : Bool) (ds : List PyData) : PyData := if t = true then .tuple ds else .list ds
theorem seqD_seq (t : Bool) (ds : List PyData) : seqB (seqD t ds) = true := by cases t <;> rfl
theorem seqD_itm (t : Bool) (ds : List PyData) : itm (seqD t ds) = ds := by cases t <;> rfl
theorem isEn {N : Addr → Prop} {H : Hp} {r : Addr} {t : Bool} {xs : List V} {ds : List PyData} (h : Kd.Is K t H r xs) (l : t = false → N r ∧ H r = some (.lst xs)) (e : Ens K N H xs ds) : En K N H (.ref r) (seqD t ds) := by
  cases t with
  | true => exact .tup h e
  | false => exact .lst (l rfl).1 (l rfl).2 e
theorem nV_ens {N : Addr → Prop} {H : Hp} (ns : List Nat) : Ens K N H (nV ns) (nD ns) := int_ens ns
theorem ok_parts (T : Txt K mg) : FnOk P w K mg base CX0 3 T.a_parts T.d_parts ["_law_bag_here"] (sp_parts K) := by
  refine T.F_parts.ok sc_parts (fun vs H Q E h => ?_) (fun cdv A outer s H vs Q E hr h => ?_)
  · obtain ⟨b, rfl, _⟩ := h
    rfl
  · obtain ⟨b, rfl, hb, k⟩ := h
    refine ⟨_, (pss_cons (ps_par3 (i := 1) (j := 2) (l := 3) rfl sc_parts.nd rfl rfl rfl (by decide) (by decide) (by decide) rfl rfl rfl (pa_cons (pe_listRg rfl (by rfl) T.z_list (prg_1 (by rfl) T.z_range pe_int)) (pa_cons (pe_lst pa_nil) (pa_cons (pe_lst pa_nil) pa_nil))) rfl)
      (pss_cons (ps_for PassesOwn.never rfl (pi_range1 (by rfl) T.z_range (pa_cons (pe_call (ok_take T) (hr.mono (by decide)) (by rfl) T.g_take T.F_take.kp T.b_take .nil pass0 (pa_cons (pv 0) (pa_cons pe_int pa_nil))) pa_nil)) (pg_name (i := 4) sc_parts.nd rfl (Or.inl rfl))
        (pss_one (ps_expr (pe_bm PySem.F.plainAttrs_list PySem.F.slot_list_append PySem.F.type_list_append mt_append (pv 2) (pa_cons (pe_bm PySem.F.plainAttrs_list PySem.F.slot_list_pop PySem.F.type_list_pop mt_popAt (pv 1) (pa_cons (pe_call (ok_take T) (hr.mono (by decide)) (by rfl) T.g_take T.F_take.kp T.b_take .nil pass0 (pa_cons (pv 0) (pa_cons (pe_callB call_len_seq (by rfl) T.z_len PySem.boot_len (pa_cons (pv 1) pa_nil)) pa_nil))) pa_nil)) pa_nil)))))
      (pss_cons (ps_for PassesOwn.never rfl (pi_range1 (by rfl) T.z_range (pa_cons (pe_call (ok_take T) (hr.mono (by decide)) (by rfl) T.g_take T.F_take.kp T.b_take .nil pass0 (pa_cons (pv 0) (pa_cons pe_int pa_nil))) pa_nil)) (pg_name (i := 4) sc_parts.nd rfl (Or.inl rfl))
        (pss_one (ps_expr (pe_bm PySem.F.plainAttrs_list PySem.F.slot_list_append PySem.F.type_list_append mt_append (pv 3) (pa_cons (pe_call (ok_as T) (hr.mono (by decide)) (by rfl) T.g_as T.F_as.kp T.b_as .nil pass0 (pa_cons (pv 0) (pa_cons (pe_lst (pa_cons (pe_call (ok_take T) (hr.mono (by decide)) (by rfl) T.g_take T.F_take.kp T.b_take .nil pass0 (pa_cons (pv 0) (pa_cons pe_int pa_nil))) (pa_cons (pe_call (ok_take T) (hr.mono (by decide)) (by rfl) T.g_take T.F_take.kp T.b_take .nil pass0 (pa_cons (pv 0) (pa_cons pe_int pa_nil))) pa_nil))) pa_nil))) pa_nil)))))
      (pss_cons (ps_setLc (i := 5) (own := [("_law_grade", 6)]) (g := gName 6) (tt := tYes) rfl sc_parts.nd rfl rfl (sw_true rfl rfl rfl (by decide +kernel)) (pi_range1 (by rfl) T.z_range (pa_cons pe_int pa_nil)) (blkOk_by (own := [("_law_grade", 6)]) (N := nm_parts) (sc := (defScope s_parts)) (by decide +kernel)) (fun _ _ _ _ _ => pg_name (i := 6) sc_parts.nd rfl (Or.inl rfl)) (fun _ _ _ _ _ => pts_nil) (fun _ _ _ _ _ => (pe_call (ok_take T) (hr.mono (by decide)) (by rfl) T.g_take T.F_take.kp T.b_take .nil pass0 (pa_cons (pv 0) (pa_cons pe_int pa_nil)))))
      (pss_cons (ps_setLc (i := 7) (own := [("_law_grade", 6)]) (g := gName 6) (tt := tYes) rfl sc_parts.nd rfl rfl (sw_true rfl rfl rfl (by decide +kernel)) (pi_range1 (by rfl) T.z_range (pa_cons pe_int pa_nil)) (blkOk_by (own := [("_law_grade", 6)]) (N := nm_parts) (sc := (defScope s_parts)) (by decide +kernel)) (fun _ _ _ _ _ => pg_name (i := 6) sc_parts.nd rfl (Or.inl rfl)) (fun _ _ _ _ _ => pts_nil) (fun _ _ _ _ _ => (pe_call (ok_take T) (hr.mono (by decide)) (by rfl) T.g_take T.F_take.kp T.b_take .nil pass0 (pa_cons (pv 0) (pa_cons pe_int pa_nil)))))
      (pss_one (ps_ret (pe_lst (pa_cons (pe_call (ok_number T) (hr.mono (by decide)) (by rfl) T.g_number T.F_number.kp T.b_number .nil pass0 (pa_cons (pv 0) pa_nil)) (pa_cons (pe_call (ok_as T) (hr.mono (by decide)) (by rfl) T.g_as T.F_as.kp T.b_as .nil pass0 (pa_cons (pv 0) (pa_cons (pv 2) pa_nil))) (pa_cons (pe_call (ok_as T) (hr.mono (by decide)) (by rfl) T.g_as T.F_as.kp T.b_as .nil pass0 (pa_cons (pv 0) (pa_cons (pv 5) pa_nil))) (pa_cons (pe_call (ok_as T) (hr.mono (by decide)) (by rfl) T.g_as T.F_as.kp T.b_as .nil pass0 (pa_cons (pv 0) (pa_cons (pv 7) pa_nil))) (pa_cons (pe_call (ok_as T) (hr.mono (by decide)) (by rfl) T.g_as T.F_as.kp T.b_as .nil pass0 (pa_cons (pv 0) (pa_cons (pv 3) pa_nil))) pa_nil))))))))))))), ?_⟩
    refine ⟨_, rfl, RgOk.of_le (by decide) (by decide) (by decide) (by decide), fun C hC => ?_⟩
    rw [show rgV 0 6 = nV (List.range 6) from rg_nV 6]
    have s1 := same_new (o := .lst (nV (List.range 6))) hC
    have hC1 : upd H C (.lst (nV (List.range 6))) C = some (.lst (nV (List.range 6))) := upd_same
    have nCb := hb.off hC
    generalize upd H C (.lst (nV (List.range 6))) = H1 at s1 hC1 ⊢
    refine ⟨small_len (by show 0 ≤ 100000; decide), fun O hO => ⟨small_len (by show 0 ≤ 100000; decide), fun M hM => ⟨_, _, _, rfl, ?_⟩⟩⟩
    have nOC : O ≠ C := fun e => by subst e; rw [hC1] at hO; cases hO
    have s2 := same_new (o := .lst []) hO
    have hO2 : upd H1 O (.lst []) O = some (.lst []) := upd_same
    have hOA := none_of s1 hO
    have nMO : M ≠ O := fun e => by subst e; rw [hO2] at hM; cases hM
    have nMC : M ≠ C := fun e => by subst e; rw [s2 _ _ hC1] at hM; cases hM
    have s3 := same_new (o := .lst []) hM
    have hMA := none_of (s1.trans s2) hM
    have hM3 : upd (upd H1 O (.lst [])) M (.lst []) M = some (.lst []) := upd_same
    have hO3 := s3 _ _ hO2
    have hC3 := s3 _ _ (s2 _ _ hC1)
    have s13 := (s1.trans s2).trans s3
    have nOb := hb.off hOA
    have nMb := hb.off hMA
    generalize upd (upd H1 O (.lst [])) M (.lst []) = H3 at s13 hM3 hO3 hC3 ⊢
    have hb3 := hb.k s13
    refine ⟨_, rfl, b, 7, rfl, hb3, by decide, by decide, fun H4 k1 hk1 bu4 hb4 => ?_⟩
    refine ⟨_, rfl, by omega, by omega, ?_⟩
    rw [Int.toNat_natCast]
    have hC4 := bu4 _ _ nCb hC3
    have hO4 := bu4 _ _ nOb hO3
    have hM4 := bu4 _ _ nMb hM3
    have bu4 := (Off.of (p := b) s13).trans bu4
    refine for_range (fun j σ B => (∃ v4, σ = [some (.ref b), some (.ref C), some (.ref O), some (.ref M), v4, none, none, none]) ∧ Off b H B ∧ Bk B b ∧ B M = some (.lst []) ∧ ∃ cr od : List Nat, B C = some (.lst (nV cr)) ∧ B O = some (.lst (nV od)) ∧ cr.length + j = 6 ∧ (cr ++ od).Perm (List.range 6))
      ⟨⟨none, rfl⟩, bu4, hb4, hM4, List.range 6, [], hC4, hO4, by simp, by rw [List.append_nil]⟩ (fun j σ B hj hP => ?_) (fun σ B hP => ?_)
    · obtain ⟨⟨v4, rfl⟩, buB, hbB, hMB, cr, od, hCB, hOB, lcr, pe⟩ := hP
      have lod := pe.length_eq
      rw [List.length_append, List.length_range] at lod
      refine ⟨_, rfl, .inl ⟨rfl, _, SqL.of hOB⟩, _, rfl, .inl ⟨rfl, _, SqL.of hCB⟩, _, rfl, _, rfl, C, _, rfl, .inl (SqL.of hCB), ?_⟩
      rw [nV_len]
      refine ⟨b, cr.length, rfl, hbB, by omega, by omega, fun B2 d hd bu4 hb4 => ?_⟩
      have hC4 := bu4 _ _ nCb hCB
      have hO4 := bu4 _ _ nOb hOB
      have hM4 := bu4 _ _ nMb hMB
      have bu4 := buB.trans bu4
      have hx := List.getElem?_eq_getElem hd
      generalize cr[d] = x at hx
      refine ⟨C, _, _, d, .int (x : Nat), rfl, rfl, hC4, by omega, by omega, by rw [nV_len]; exact seqIndex_of (by omega) (by omega), nV_at hx, ?_⟩
      rw [nV_erase]
      have bu5 := bu4.new (C := C) (o := .lst (nV (cr.eraseIdx d))) hC
      have hb5 := hb4.off2 (p := C) (Off.set (o := .lst (nV (cr.eraseIdx d)))) (fun z => nCb z.symm)
      have hC5 : upd B2 C (.lst (nV (cr.eraseIdx d))) C = some (.lst (nV (cr.eraseIdx d))) := upd_same
      have hO5 : upd B2 C (.lst (nV (cr.eraseIdx d))) O = some (.lst (nV od)) := by rw [upd_ne nOC]; exact hO4
      have hM5 : upd B2 C (.lst (nV (cr.eraseIdx d))) M = some (.lst []) := by rw [upd_ne nMC]; exact hM4
      generalize upd B2 C (.lst (nV (cr.eraseIdx d))) = B5 at bu5 hb5 hC5 hO5 hM5 ⊢
      refine ⟨O, _, _, rfl, rfl, hO5, by rw [nV_len]; exact small1000 (by omega), ?_⟩
      rw [nV_snoc]
      refine ⟨⟨_, rfl⟩, bu5.new hOA, hb5.off2 (Off.set (p := O)) (fun z => nOb z.symm), by rw [upd_ne nMO]; exact hM5, cr.eraseIdx d, od ++ [x], by rw [upd_ne (fun z => nOC z.symm)]; exact hC5, upd_same, ?_, pop_perm pe hx⟩
      rw [List.length_eraseIdx_of_lt hd]
      omega
    obtain ⟨⟨v4, rfl⟩, buB, hbB, hMB, cr, od, hCB, hOB, lcr, pe⟩ := hP
    have odn : od.Nodup := (List.nodup_append.mp (pe.nodup_iff.mpr List.nodup_range)).2.1
    have odl : ∀ x ∈ od, x ≤ 5 := fun x m => by
      have := List.mem_range.mp (pe.mem_iff.mp (List.mem_append_right _ m))
      omega
    clear hCB pe hO4 hM4 hC4
    refine ⟨_, rfl, b, 7, rfl, hbB, by decide, by decide, fun H5 k2 hk2 bu5 hb5 => ?_⟩
    refine ⟨_, rfl, by omega, by omega, ?_⟩
    rw [Int.toNat_natCast]
    have hO5 := bu5 _ _ nOb hOB
    have hM5 := bu5 _ _ nMb hMB
    have bu5 := buB.trans bu5
    refine for_range (fun j σ B => (∃ v4, σ = [some (.ref b), some (.ref C), some (.ref O), some (.ref M), v4, none, none, none]) ∧ Off b H B ∧ Bk B b ∧ B O = some (.lst (nV od)) ∧ ∃ (vals : List V) (ds : List PyData) (ms : List (Nat × Nat)), B M = some (.lst vals) ∧ Ens K (fun a => Nf b H a ∧ a ≠ M) B vals ds ∧ (∀ x ∈ ds, seqB x = true) ∧ ds.map (fun x => PyData.tuple (itm x)) = ms.map mD ∧ ms.length = j ∧ ∀ x ∈ ms, x.1 ≤ 5 ∧ x.2 ≤ 8)
      ⟨⟨_, rfl⟩, bu5, hb5, hO5, [], [], [], hM5, .nil, (fun _ m => by cases m), rfl, rfl, (fun _ m => by cases m)⟩ (fun j σ B hj hP => ?_) (fun σ B hP => ?_)
    · obtain ⟨⟨v4, rfl⟩, buB, hbB, hOB, vals, ds, ms, hMB, ev, sv, em, lj, lms⟩ := hP
      refine ⟨_, rfl, .inl ⟨rfl, _, SqL.of hMB⟩, _, rfl, _, rfl, b, 6, rfl, hbB, by decide, by decide, fun B1 c1 hc1 bu6 hb6 => ?_⟩
      refine ⟨_, rfl, b, 9, rfl, hb6, by decide, by decide, fun B2 c2 hc2 bu7 hb7 => ⟨small_len (by show 2 ≤ 100000; decide), fun F hF => ?_⟩⟩
      have sF := same_new (o := .lst [.int (c1 : Nat), .int (c2 : Nat)]) hF
      refine ⟨b, F, _, rfl, hb7.k sF, hb7.off hF, upd_same, fun B3 r tt bu8 hb8 hfr hI => ?_⟩
      have buA : Off b B B3 := ((bu6.trans bu7).trans (.of sF)).trans bu8
      have hM3 := buA _ _ nMb hMB
      have hO3 := buA _ _ nOb hOB
      have nrM : tt = false → r ≠ M := fun e z => by
        obtain ⟨h1, _, _⟩ := hfr e
        rw [z, sF _ _ (bu7 _ _ nMb (bu6 _ _ nMb hMB))] at h1
        cases h1
      have nrb : tt = false → r ≠ b := fun e z => by
        obtain ⟨h1, _, _⟩ := hfr e
        obtain ⟨_, _, e2, _⟩ := hb7.k sF
        rw [z, e2] at h1
        cases h1
      have kt1 : Kt K B B3 := hbB.kt buA
      have kt2 : ∀ ys, Kt K B3 (upd B3 M (.lst ys)) := fun ys => Kt.lst hM3
      have fr0 : tt = false → H r = none := fun e => (((buB.trans bu6).trans bu7).trans (.of sF)).none (nrb e) (hfr e).1
      have ev3 : Ens K (fun a => Nf b H a ∧ a ≠ M) B3 (vals ++ [.ref r]) (ds ++ [seqD tt (nD [c1, c2])]) := (Ens.kk kt1 (fun a o n e => ⟨n, buA _ _ n.1.2.1 e⟩) _ _ ev).snoc (isEn hI (fun e => ⟨⟨⟨(hfr e).2.1, nrb e, fr0 e⟩, nrM e⟩, (hfr e).2.2⟩) (nV_ens [c1, c2]))
      have lv : vals.length = j := by
        have e1 := ev.len
        have e2 := congrArg List.length em
        rw [List.length_map, List.length_map] at e2
        omega
      refine ⟨M, _, _, rfl, rfl, hM3, small1000 (by omega), ⟨_, rfl⟩, (buB.trans buA).new hMA, hb8.off2 (Off.set (p := M)) (fun z => nMb z.symm), by rw [upd_ne (fun z => nMO z.symm)]; exact hO3, _, ds ++ [seqD tt (nD [c1, c2])], ms ++ [(c1, c2)], upd_same, Ens.kk (kt2 _) (fun a o n e => ⟨n, by rw [upd_ne n.2]; exact e⟩) _ _ ev3, fun x m => ?_, ?_, by rw [List.length_append, lj]; rfl, fun x m => ?_⟩
      · rcases List.mem_append.mp m with m | m
        · exact sv x m
        · rw [List.mem_singleton.mp m]; exact seqD_seq _ _
      · rw [List.map_append, em, List.map_append]
        show _ ++ [PyData.tuple (itm (seqD tt (nD [c1, c2])))] = _
        rw [seqD_itm]
        rfl
      · rcases List.mem_append.mp m with m | m
        · exact lms x m
        · rw [List.mem_singleton.mp m]; exact ⟨by show c1 ≤ 5; omega, by show c2 ≤ 8; omega⟩
    obtain ⟨⟨v4, rfl⟩, buB, hbB, hOB, vals, ds, ms, hMB, ev, sv, em, lj, lms⟩ := hP
    refine ⟨_, rfl, by decide, by decide, fun D hD => ?_⟩
    have nDb := hbB.off hD
    refine lc_range (fun j B' => Off b B B' ∧ Bk B' b ∧ ∃ ns : List Nat, ns.length = j ∧ (∀ k ∈ ns, k ≤ 6) ∧ B' D = some (.lst (nV ns)))
      ⟨Off.of (same_new hD), hbB.k (same_new hD), [], rfl, (fun _ m => by cases m), upd_same⟩ (fun j B' hj hP => ?_) (fun B1 hP => ?_)
    · obtain ⟨bu', hb', ns, ln, n6, hD'⟩ := hP
      refine ⟨rfl, yesT ⟨_, rfl, b, 7, rfl, hb', by decide, by decide, fun B2 m hm bu2' hb2' => ?_⟩⟩
      have hj : j < 3 := hj
      have hDx := bu2' _ _ nDb hD'
      refine ⟨_, hDx, by rw [nV_len]; exact small1000 (by omega), (bu'.trans bu2').new hD, hb2'.off2 (Off.set (p := D)) (fun z => nDb z.symm), ns ++ [m], by rw [List.length_append, ln]; rfl, fun x mx => ?_, by rw [upd_same, nV_snoc]⟩
      rcases List.mem_append.mp mx with mx | mx
      · exact n6 x mx
      · rw [List.mem_singleton.mp mx]; omega
    obtain ⟨buB1, hbB1, cs, lncs, l6cs, hDB1⟩ := hP
    have lncs : cs.length = 3 := lncs
    refine ⟨_, rfl, by decide, by decide, fun D2 hD2 => ?_⟩
    have nD2b := hbB1.off hD2
    refine lc_range (fun j B' => Off b B1 B' ∧ Bk B' b ∧ ∃ ns : List Nat, ns.length = j ∧ (∀ k ∈ ns, k ≤ 6) ∧ B' D2 = some (.lst (nV ns)))
      ⟨Off.of (same_new hD2), hbB1.k (same_new hD2), [], rfl, (fun _ m => by cases m), upd_same⟩ (fun j B' hj hP => ?_) (fun B2 hP => ?_)
    · obtain ⟨bu', hb', ns, ln, n6, hD'⟩ := hP
      refine ⟨rfl, yesT ⟨_, rfl, b, 7, rfl, hb', by decide, by decide, fun B2 m hm bu2' hb2' => ?_⟩⟩
      have hj : j < 3 := hj
      have hDx := bu2' _ _ nD2b hD'
      refine ⟨_, hDx, by rw [nV_len]; exact small1000 (by omega), (bu'.trans bu2').new hD2, hb2'.off2 (Off.set (p := D2)) (fun z => nD2b z.symm), ns ++ [m], by rw [List.length_append, ln]; rfl, fun x mx => ?_, by rw [upd_same, nV_snoc]⟩
      rcases List.mem_append.mp mx with mx | mx
      · exact n6 x mx
      · rw [List.mem_singleton.mp mx]; omega
    obtain ⟨buB2, hbB2, ws, lnws, l6ws, hD2B2⟩ := hP
    have lnws : ws.length = 3 := lnws
    have hD2' := buB2 _ _ nDb hDB1
    have buT := buB1.trans buB2
    have hO2 := buT _ _ nOb hOB
    have hM2 := buT _ _ nMb hMB
    have ev2 := Ens.kk (M := fun a => Nf b H a ∧ a ≠ M) (hbB.kt buT) (fun a o n e => ⟨n, buT _ _ n.1.2.1 e⟩) _ _ ev
    have ev2 : Ens K (Nf b H) B2 vals ds := Ens.kk Kt.refl (fun a o n e => ⟨n.1, e⟩) _ _ ev2
    have buA := buB.trans buT
    refine ⟨_, rfl, b, rfl, hbB2, fun A1 dg hdg u1 g1 => ?_⟩
    refine ⟨_, rfl, _, rfl, b, O, _, rfl, g1, nOb, u1 _ _ nOb hO2, fun A2 r1 t1 u2 g2 f1 I1 => ?_⟩
    have u2' := u1.trans u2
    refine ⟨_, rfl, _, rfl, b, D, _, rfl, g2, nDb, u2' _ _ nDb hD2', fun A3 r2 t2 u3 g3 f2 I2 => ?_⟩
    have u3' := u2'.trans u3
    refine ⟨_, rfl, _, rfl, b, D2, _, rfl, g3, nD2b, u3' _ _ nD2b hD2B2, fun A4 r3 t3 u4 g4 f3 I3 => ?_⟩
    have u4' := u3'.trans u4
    refine ⟨_, rfl, _, rfl, b, M, _, rfl, g4, nMb, u4' _ _ nMb hM2, fun A5 r4 t4 u5 g5 f4 I4 => ?_⟩
    have u5' := u4'.trans u5
    have nb : ∀ {X Y : Hp} {r : Addr} {t : Bool} {xs : List V}, Off b H X → Bk X b → (t = false → X r = none ∧ r ≠ sysModules ∧ Y r = some (.lst xs)) → t = false → Nf b H r ∧ Y r = some (.lst xs) := fun u g f e => ⟨⟨(f e).2.1, g.off (f e).1, u.none (g.off (f e).1) (f e).1⟩, (f e).2.2⟩
    have E1 := En.offF (isEn (N := Nf b H) I1 (nb (buA.trans u1) g1 f1) (nV_ens od)) g2 (u3.trans (u4.trans u5))
    have E2 := En.offF (isEn (N := Nf b H) I2 (nb (buA.trans u2') g2 f2) (nV_ens cs)) g3 (u4.trans u5)
    have E3 := En.offF (isEn (N := Nf b H) I3 (nb (buA.trans u3') g3 f3) (nV_ens ws)) g4 u5
    have E4 := isEn (N := Nf b H) I4 (nb (buA.trans u4') g4 f4) (Ens.kk (hbB2.kt u5') (fun a o n e => ⟨n, u5' _ _ n.2.1 e⟩) _ _ ev2)
    refine ⟨small_len (by show 5 ≤ 100000; decide), fun l hl => ?_⟩
    have sl := same_new (o := .lst [.str (numS dg), .ref r1, .ref r2, .ref r3, .ref r4]) hl
    have hlH : H l = none := (buA.trans u5').none (g5.off hl) hl
    have lm6 : ms.length ≤ 6 := by omega
    have past : ∀ {v d}, En K (Nf b H) A5 v d → En K (Np b l H) (upd A5 l (.lst [.str (numS dg), .ref r1, .ref r2, .ref r3, .ref r4])) v d := fun h => En.kk (Kt.same sl) (fun a o n e => ⟨⟨n, fun z => by rw [z, hl] at e; cases e⟩, sl _ _ e⟩) _ _ h
    exact k _ l ⟨dg, od, cs, ws, ms⟩ (seqD t1 (nD od)) (seqD t2 (nD cs)) (seqD t3 (nD ws)) (seqD t4 ds) ((buA.trans u5').trans (.of sl)) (g5.k sl) hlH ⟨hdg, odl, odn, lncs, l6cs, lnws, l6ws, lm6, lms⟩
      ⟨_, _, _, _, _, upd_same, .str _, past E1, past E2, past E3, past E4⟩
      ⟨rfl, seqD_seq _ _, seqD_itm _ _, seqD_seq _ _, seqD_itm _ _, seqD_seq _ _, seqD_itm _ _, seqD_seq _ _, by rw [seqD_itm]; exact em, by rw [seqD_itm]; exact sv⟩
end
end K54

namespace K54
open PySem L2 Wm TL Dv De
section
variable {P : Program} {w : World} {K : PySem.W.Frag} {mg : Str → Option Value} {base : Heap}
/-! odd objects -/
def mT : List PyData := [.str "", .str "0", .str "10", .str "11111", .str "9996", .str "9951", .str " 3", .str "3 ", .str "x", .str "1", .str "999"]
def mR : List PyData := [.list [.int 0, .int 0], .list [.int 6], .tuple [.int 5, .int 4, .int 3, .int 2, .int 1, .int 0], .list [.int 0, .int 1, .int 2, .int 3, .int 4, .int 5, .int 0], .list [.bool true, .int 0, .int 1], .tuple [.int 0, .int 1], .tuple [.int 7, .int 0, .int 0], .list [.int 0, .int 0, .int (-1)], .tuple [.int 1, .int 2, .int 3]]
def mP : List PyData := [.list [.tuple [.int 0, .int 9]], .list [.tuple [.int 6, .int 0]], .list [.tuple [.int 0]], .list [.list [.int 0, .int 1, .int 2]], .list (List.replicate 7 (.tuple [.int 0, .int 0])), .list (List.replicate 6 (.tuple [.int 5, .int 8])), .list [.tuple [.bool false, .int 1]], .list [.int 0], .list [.str "01"], .tuple [.tuple [.int 1, .int 2], .none]]
def mO : List PyData := [.none, .bool true, .int 0, .int (-1), .int 3, .str "12", .list [], .tuple [], .str "", .dict [], .str "333", .dict [(.str "a", .int 1)]]
def Dsp (K : PySem.W.Frag) (b : Addr) (H0 : Hp) (te : TE) (d : PyData) : Prop := ∀ (σ : L2.St) (H : Hp) (Q : V → Hp → Prop), (Same H0 H ∧ Bk H b) → (∀ H' v, Same H H' → En K (Nf b H0) H' v d → Q v H') → te σ H Q
def DspA (K : PySem.W.Frag) (b : Addr) (H0 : Hp) (ta : TA) (ds : List PyData) : Prop := ∀ (σ : L2.St) (H : Hp) (Q : List V → Hp → Prop), (Same H0 H ∧ Bk H b) → (∀ H' vs, Same H H' → Ens K (Nf b H0) H' vs ds → Q vs H') → ta σ H Q
section
variable {b : Addr} {H0 : Hp} {te : TE} {ta : TA} {d : PyData} {ds : List PyData}
theorem dsp_int (i : Int) : Dsp K b H0 (tC (.int i)) (.int i) := fun _ H _ _ k => k H _ (Same.refl H) (.int i)
theorem dsp_str (x : Str) : Dsp K b H0 (tC (.str x)) (.str x) := fun _ H _ _ k => k H _ (Same.refl H) (.str x)
theorem dsp_bl (x : Bool) : Dsp K b H0 (tC (.bl x)) (.bool x) := fun _ H _ _ k => k H _ (Same.refl H) (.bl x)
theorem dsp_non : Dsp K b H0 (tC .non) .none := fun _ H _ _ k => k H _ (Same.refl H) .non
theorem dspa_nil : DspA K b H0 tNil [] := fun _ H _ _ k => k H _ (Same.refl H) .nil
theorem dspa_cons (h : Dsp K b H0 te d) (g : DspA K b H0 ta ds) : DspA K b H0 (tCons te ta) (d :: ds) := fun σ H Q hb k => h σ H _ hb fun H1 v s1 e1 => g σ H1 _ ⟨hb.1.trans s1, hb.2.k s1⟩ fun H2 vs s2 e2 => k H2 _ (s1.trans s2) (.cons (e1.ks s2) e2)
theorem dsp_lst (h : DspA K b H0 ta ds) (l : ds.length ≤ 1000) : Dsp K b H0 (Dz.tLstZ ta) (.list ds) := fun σ H Q hb k => h σ H _ hb fun H1 vs s1 e1 => ⟨small_len (by rw [e1.len]; omega), fun p np hp => k _ _ (s1.trans (same_new hp)) (.lst ⟨np, (hb.2.k s1).off hp, none_of (hb.1.trans s1) hp⟩ upd_same (e1.ks (same_new hp)))⟩
theorem dsp_tup (h : DspA K b H0 ta ds) (l : ds.length ≤ 1000) : Dsp K b H0 (tTup ta) (.tuple ds) := fun σ H Q hb k => h σ H _ hb fun H1 vs s1 e1 => ⟨small_len (by rw [e1.len]; omega), fun p hp => k _ _ (s1.trans (same_new hp)) (.tup (.inl (.inl upd_same)) (e1.ks (same_new hp)))⟩
theorem rep_ens {H : Hp} {N : Addr → Prop} {v : V} (h : En K N H v d) : ∀ k, Ens K N H (List.replicate k v) (List.replicate k d)
  | 0 => .nil
  | k + 1 => .cons h (rep_ens h k)
theorem dsp_rep {k : Nat} (h : Dsp K b H0 te d) (k1 : 1 ≤ k) (k2 : k ≤ 1000) : Dsp K b H0 (tOp Rz.rRepZ (Dz.tLstZ (tCons te tNil)) (tC (.int (k : Int)))) (.list (List.replicate k d)) := fun σ H Q hb g => h σ H _ hb fun H1 v s1 e1 => ⟨small_len (by show 1 ≤ 100000; decide), fun p np hp => ⟨p, k, v, rfl, rfl, upd_same, k1, k2, fun q nq hq => g _ _ ((s1.trans (same_new hp)).trans (same_new hq)) (.lst ⟨nq, ((hb.2.k s1).k (same_new hp)).off hq, none_of ((hb.1.trans s1).trans (same_new hp)) hq⟩ upd_same (rep_ens (e1.ks ((same_new hp).trans (same_new hq))) k))⟩⟩
theorem dsp_emp : Dsp K b H0 Dz.tDnewZ (.dict []) := fun σ H Q hb k => fun p np hp => k _ _ (same_new hp) (.emp ⟨np, hb.2.off hp, none_of hb.1 hp⟩ upd_same)
theorem dsp_neg (n : Int) : Dsp K b H0 (tUn (rU fun i => V.int (-i)) (tC (.int n))) (.int (-n)) := fun σ H Q hb k => ⟨n, rfl, k H _ (Same.refl H) (.int (-n))⟩
theorem dsp_one : Dsp K b H0 (Dz.tDispZ [(tC (V.str "a"), tC (V.int 1))]) (.dict [(.str "a", .int 1)]) := by
  intro σ H Q hb k D nD hD
  have s : Same H (upd (upd H D (.dK [])) D (.dK [(Sum.inr "a", V.int 1)])) := fun a o e => by
    have n : a ≠ D := fun z => by rw [z, hD] at e; cases e
    rw [upd_ne n, upd_ne n]
    exact e
  exact ⟨upd_same, [(Sum.inr "a", V.int 1)], rfl, by decide, k _ _ s (.one ⟨nD, hb.2.off hD, none_of hb.1 hD⟩ upd_same)⟩
theorem seq_dsp {i : Nat} {rest : TS} {D : Ends} {σ : L2.St} {H : Hp} (h : Dsp K b H0 te d) (hb : Same H0 H ∧ Bk H b) (k : ∀ H' v, Same H H' → En K (Nf b H0) H' v d → rest D (σ.set i (some v)) H') : tSeq (tAsg te (gName i)) rest D σ H := h σ H _ hb fun H' v s e => k H' v s e
end
def mgB (d : PyData) : Bool := d.showable && (d.leavesShort 13 && (decide (d.depth ≤ 4) && decide (d.bulk ≤ 1000)))
theorem mgB_mg {d : PyData} (h : mgB d = true) : Mg 4 1000 d := by
  obtain ⟨a, h⟩ := Bool.and_eq_true_iff.mp h
  obtain ⟨b, h⟩ := Bool.and_eq_true_iff.mp h
  obtain ⟨c, d⟩ := Bool.and_eq_true_iff.mp h
  exact ⟨a, b, of_decide_eq_true c, of_decide_eq_true d⟩
theorem mg_menu : ((mT ++ mO).all mgB && ((mR ++ mO).all mgB && (mP ++ mO).all mgB)) = true := by decide +kernel
theorem ok_odd (T : Txt K mg) : FnOk P w K mg base CX0 3 T.a_odd T.d_odd ["_law_bag_here", "_law_at"] (sp_odd K) := by
  refine T.F_odd.ok sc_odd (fun vs H Q E h => ?_) (fun cdv A outer s H vs Q E hr h => ?_)
  · obtain ⟨b, i, rfl, _⟩ := h
    rfl
  · obtain ⟨b, i, rfl, i4, hb, k⟩ := h
    refine ⟨_, (pss_cons (ps_set (i := 2) sc_odd.nd rfl (Or.inl rfl) (Dz.pe_lstZ (pa_cons pe_str (pa_cons pe_str (pa_cons pe_str (pa_cons pe_str (pa_cons pe_str (pa_cons pe_str (pa_cons pe_str (pa_cons pe_str (pa_cons pe_str (pa_cons pe_str (pa_cons pe_str pa_nil)))))))))))))
      (pss_cons (ps_set (i := 3) sc_odd.nd rfl (Or.inl rfl) (Dz.pe_lstZ (pa_cons (Dz.pe_lstZ (pa_cons pe_int (pa_cons pe_int pa_nil))) (pa_cons (Dz.pe_lstZ (pa_cons pe_int pa_nil)) (pa_cons (pe_tup (pa_cons pe_int (pa_cons pe_int (pa_cons pe_int (pa_cons pe_int (pa_cons pe_int (pa_cons pe_int pa_nil))))))) (pa_cons (Dz.pe_lstZ (pa_cons pe_int (pa_cons pe_int (pa_cons pe_int (pa_cons pe_int (pa_cons pe_int (pa_cons pe_int (pa_cons pe_int pa_nil)))))))) (pa_cons (Dz.pe_lstZ (pa_cons pe_bl (pa_cons pe_int (pa_cons pe_int pa_nil)))) (pa_cons (pe_tup (pa_cons pe_int (pa_cons pe_int pa_nil))) (pa_cons (pe_tup (pa_cons pe_int (pa_cons pe_int (pa_cons pe_int pa_nil)))) (pa_cons (Dz.pe_lstZ (pa_cons pe_int (pa_cons pe_int (pa_cons (pe_un un_neg pe_int) pa_nil)))) (pa_cons (pe_tup (pa_cons pe_int (pa_cons pe_int (pa_cons pe_int pa_nil)))) pa_nil)))))))))))
      (pss_cons (ps_set (i := 4) sc_odd.nd rfl (Or.inl rfl) (Dz.pe_lstZ (pa_cons (Dz.pe_lstZ (pa_cons (pe_tup (pa_cons pe_int (pa_cons pe_int pa_nil))) pa_nil)) (pa_cons (Dz.pe_lstZ (pa_cons (pe_tup (pa_cons pe_int (pa_cons pe_int pa_nil))) pa_nil)) (pa_cons (Dz.pe_lstZ (pa_cons (pe_tup (pa_cons pe_int pa_nil)) pa_nil)) (pa_cons (Dz.pe_lstZ (pa_cons (Dz.pe_lstZ (pa_cons pe_int (pa_cons pe_int (pa_cons pe_int pa_nil)))) pa_nil)) (pa_cons (pe_op Rz.op_repZ (Dz.pe_lstZ (pa_cons (pe_tup (pa_cons pe_int (pa_cons pe_int pa_nil))) pa_nil)) pe_int) (pa_cons (pe_op Rz.op_repZ (Dz.pe_lstZ (pa_cons (pe_tup (pa_cons pe_int (pa_cons pe_int pa_nil))) pa_nil)) pe_int) (pa_cons (Dz.pe_lstZ (pa_cons (pe_tup (pa_cons pe_bl (pa_cons pe_int pa_nil))) pa_nil)) (pa_cons (Dz.pe_lstZ (pa_cons pe_int pa_nil)) (pa_cons (Dz.pe_lstZ (pa_cons pe_str pa_nil)) (pa_cons (pe_tup (pa_cons (pe_tup (pa_cons pe_int (pa_cons pe_int pa_nil))) (pa_cons pe_non pa_nil))) pa_nil))))))))))))
      (pss_cons (ps_set (i := 5) sc_odd.nd rfl (Or.inl rfl) (Dz.pe_lstZ (pa_cons pe_non (pa_cons pe_bl (pa_cons pe_int (pa_cons (pe_un un_neg pe_int) (pa_cons pe_int (pa_cons pe_str (pa_cons (Dz.pe_lstZ pa_nil) (pa_cons (pe_tup pa_nil) (pa_cons pe_str (pa_cons Dz.pe_dnewZ (pa_cons pe_str (pa_cons (Dz.pe_dispZ (pps_cons pe_str pe_int pps_nil) rfl rfl (by simp) (by decide)) pa_nil))))))))))))))
      (pss_cons (ps_set (i := 6) sc_odd.nd rfl (Or.inl rfl) (pe_op op_cat (pe_ix ix_list (Dz.pe_lstZ (pa_cons (pv 2) (pa_cons (pv 3) (pa_cons (pv 3) (pa_cons (pv 3) (pa_cons (pv 4) pa_nil)))))) (pv 1) (fun _ _ => rfl)) (pv 5)))
      (pss_one (ps_ret (pe_call (ok_of T) (hr.mono (by decide)) (by rfl) T.g_of T.F_of.kp T.b_of .nil pass0 (pa_cons (pv 0) (pa_cons (pv 6) pa_nil)))))))))), ?_⟩
    refine seq_dsp (K := K) (H0 := H) (d := .list mT) (by unfold mT; (repeat (first | exact dsp_int _ | exact dsp_str _ | exact dsp_bl _ | exact dsp_non | exact dspa_nil | exact dsp_emp | exact dsp_one | exact dsp_neg _ | refine dspa_cons ?_ ?_ | refine dsp_lst ?_ (by decide) | refine dsp_tup ?_ (by decide) | refine dsp_rep ?_ (by decide) (by decide)))) ⟨Same.refl _, hb⟩ fun H1 v1 s1 e1 => ?_
    refine seq_dsp (K := K) (H0 := H) (d := .list mR) (by unfold mR; (repeat (first | exact dsp_int _ | exact dsp_str _ | exact dsp_bl _ | exact dsp_non | exact dspa_nil | exact dsp_emp | exact dsp_one | exact dsp_neg _ | refine dspa_cons ?_ ?_ | refine dsp_lst ?_ (by decide) | refine dsp_tup ?_ (by decide) | refine dsp_rep ?_ (by decide) (by decide)))) ⟨s1, hb.k s1⟩ fun H2 v2 s2 e2 => ?_
    refine seq_dsp (K := K) (H0 := H) (d := .list mP) (by unfold mP; (repeat (first | exact dsp_int _ | exact dsp_str _ | exact dsp_bl _ | exact dsp_non | exact dspa_nil | exact dsp_emp | exact dsp_one | exact dsp_neg _ | refine dspa_cons ?_ ?_ | refine dsp_lst ?_ (by decide) | refine dsp_tup ?_ (by decide) | refine dsp_rep ?_ (by decide) (by decide)))) ⟨s1.trans s2, (hb.k s1).k s2⟩ fun H3 v3 s3 e3 => ?_
    refine seq_dsp (K := K) (H0 := H) (d := .list mO) (by unfold mO; (repeat (first | exact dsp_int _ | exact dsp_str _ | exact dsp_bl _ | exact dsp_non | exact dspa_nil | exact dsp_emp | exact dsp_one | exact dsp_neg _ | refine dspa_cons ?_ ?_ | refine dsp_lst ?_ (by decide) | refine dsp_tup ?_ (by decide) | refine dsp_rep ?_ (by decide) (by decide)))) ⟨(s1.trans s2).trans s3, ((hb.k s1).k s2).k s3⟩ fun H4 v4 s4 e4 => ?_
    have hb4 := (((hb.k s1).k s2).k s3).k s4
    have sT := ((s1.trans s2).trans s3).trans s4
    have inv : ∀ {v : V} {ds : List PyData}, En K (Nf b H) H4 v (.list ds) → ∃ a xs, v = .ref a ∧ a ≠ b ∧ H4 a = some (.lst xs) ∧ Ens K (Nf b H) H4 xs ds := fun h => by
      cases h with
      | lst n e r => exact ⟨_, _, rfl, n.2.1, e, r⟩
    obtain ⟨a1, x1, rfl, n1, h1, r1⟩ := inv (e1.ks ((s2.trans s3).trans s4))
    obtain ⟨a2, x2, rfl, n2, h2, r2⟩ := inv (e2.ks (s3.trans s4))
    obtain ⟨a3, x3, rfl, n3, h3, r3⟩ := inv (e3.ks s4)
    obtain ⟨a4, x4, rfl, n4, h4, r4⟩ := inv e4
    obtain ⟨m1, m23⟩ := Bool.and_eq_true_iff.mp mg_menu
    obtain ⟨m2, m3⟩ := Bool.and_eq_true_iff.mp m23
    have pick : ∃ a xs ds, [V.ref a1, .ref a2, .ref a2, .ref a2, .ref a3][i]? = some (.ref a) ∧ H4 a = some (.lst xs) ∧ Ens K (Nf b H) H4 xs ds ∧ (ds ++ mO).all mgB = true ∧ ds ≠ [] ∧ ds.length ≤ 20 := by
      match i, i4 with
      | 0, _ => exact ⟨a1, x1, mT, rfl, h1, r1, m1, by simp [mT], by simp [mT]⟩
      | 1, _ => exact ⟨a2, x2, mR, rfl, h2, r2, m2, by simp [mR], by simp [mR]⟩
      | 2, _ => exact ⟨a2, x2, mR, rfl, h2, r2, m2, by simp [mR], by simp [mR]⟩
      | 3, _ => exact ⟨a2, x2, mR, rfl, h2, r2, m2, by simp [mR], by simp [mR]⟩
      | 4, _ => exact ⟨a3, x3, mP, rfl, h3, r3, m3, by simp [mP], by simp [mP]⟩
      | n + 5, h => exact absurd h (by omega)
    obtain ⟨a, xs, ds, ea, ha, ra, ma, ne, ld⟩ := pick
    have l1 := ra.len
    have l4 := r4.len
    have lO : mO.length = 12 := rfl
    refine ⟨_, rfl, _, rfl, _, rfl, _, rfl, _, rfl, small_len (by show 5 ≤ 100000; decide), fun p np hp => ?_⟩
    have s5 := same_new (o := .lst [V.ref a1, .ref a2, .ref a2, .ref a2, .ref a3]) hp
    refine ⟨_, rfl, p, _, (i : Int), _, rfl, rfl, SqL.of upd_same, atI_nat ea, ?_⟩
    have ha5 := s5 _ _ ha
    have h45 := s5 _ _ h4
    have ra := (ra.app r4).ks s5
    have hb5 := hb4.k s5
    generalize upd H4 p (.lst [V.ref a1, .ref a2, .ref a2, .ref a2, .ref a3]) = H5 at *
    refine ⟨_, rfl, a, a4, xs, x4, rfl, rfl, ha5, h45, small_len (by omega), fun m hm => ?_⟩
    have s6 := same_new (o := .lst (xs ++ x4)) hm
    have hb6 := hb5.k s6
    refine ⟨_, rfl, _, rfl, b, m, xs ++ x4, rfl, hb6, hb5.off hm, upd_same, fun e => ?_, by rw [List.length_append]; omega, fun H7 v mv off7 hb7 => ?_⟩
    · have e := congrArg List.length e
      rw [List.length_append, List.length_nil] at e
      omega
    · obtain ⟨j, hj⟩ := List.mem_iff_getElem?.mp mv
      obtain ⟨d, hd, ed⟩ := (ra.ks s6).at hj
      refine k H7 v d (((Off.of ((sT.trans s5).trans s6))).trans off7) hb7 (En.kk Kt.refl (fun x o n e => ⟨⟨⟨n.1, n.2.1⟩, n.2.2⟩, e⟩) _ _ (En.offF ed hb6 off7)) (mgB_mg ?_)
      exact List.all_eq_true.mp ma d (List.mem_of_getElem? hd)
end
end K54

namespace K54
open PySem L2 Wm TL Dv De
section
variable {P : Program} {w : World} {K : PySem.W.Frag} {mg : Str → Option Value} {base : Heap}
theorem passFN {X : Cx} : Passes (L2N.CX X.prog X.w) X (fun _ _ _ => False) := by
  intro pins σ H s e s' I h
  obtain ⟨_, _, _, _, _, _, _, _, _, _, _, _, z⟩ := h
  exact z.elim
/-- x[lo:hi] of a list or a tuple -/
def rSlK (K : PySem.W.Frag) : V → Option Int → Option Int → Hp → VK → Prop := fun x lo hi H Q => ∃ a xs t, x = .ref a ∧ Kd.Is K t H a xs ∧ ∀ p u H', Same H H' → Kd.Is K u H' p (cutV xs lo hi) → (u = false → H p = none ∧ H' p = some (.lst (cutV xs lo hi))) → Q (.ref p) H'
theorem sl_K {X : Cx} (e : X.K = K) : SlR X (rSlK K) := by
  subst e
  intro pins s σ H x v vl vu lo hi sl Q I rx hs pl pu h
  obtain ⟨a, xs, t, rfl, hI, k⟩ := h
  cases t with
  | false => exact sl_list pins s σ H _ v vl vu lo hi sl Q I rx hs pl pu ⟨a, xs, rfl, hI, fun p hp => k p false _ (same_new hp) (SqL.of upd_same) fun _ => ⟨hp, upd_same⟩⟩
  | true =>
    refine sl_tupA pins s σ H _ v vl vu lo hi sl Q I rx hs pl pu ⟨a, xs, rfl, hI, fun w => k a true H (Same.refl _) ?_ (fun z => Bool.noConfusion z), fun w p hp => k p true _ (same_new hp) (.inl (.inl upd_same)) (fun z => Bool.noConfusion z)⟩
    have e : cutV xs lo hi = xs := by
      unfold cutV
      rw [w.1, w.2, List.drop_zero, Nat.sub_zero, List.take_length]
    rw [e]
    exact hI
theorem cut_mem {xs : List V} {lo hi : Option Int} {y : V} (h : y ∈ cutV xs lo hi) : y ∈ xs := List.mem_of_mem_drop (List.mem_of_mem_take h)
/-- what changes: lists of N get nines behind -/
def Mu (N : Addr → Prop) (k : Nat) (H H' : Hp) : Prop := ∀ q o, H q = some o → H' q = some o ∨ (N q ∧ ∃ xs j, j ≤ k ∧ o = .lst xs ∧ H' q = some (.lst (xs ++ List.replicate j (V.int 9))))
theorem Mu.refl {N : Addr → Prop} {H : Hp} : Mu N 0 H H := fun _ _ e => .inl e
theorem Mu.same {N : Addr → Prop} {k : Nat} {H H1 H2 : Hp} (m : Mu N k H H1) (s : Same H1 H2) : Mu N k H H2 := fun q o e => by
  rcases m q o e with h | ⟨n, xs, j, l, eo, h⟩
  · exact .inl (s _ _ h)
  · exact .inr ⟨n, xs, j, l, eo, s _ _ h⟩
theorem Mu.lst {N : Addr → Prop} {k : Nat} {H H1 : Hp} {q : Addr} {xs : List V} (m : Mu N k H H1) (e : H q = some (.lst xs)) : ∃ j, j ≤ k ∧ H1 q = some (.lst (xs ++ List.replicate j (V.int 9))) := by
  rcases m q _ e with h | ⟨_, ys, j, l, eo, h⟩
  · exact ⟨0, Nat.zero_le _, by rw [h, List.replicate_zero, List.append_nil]⟩
  · cases eo
    exact ⟨j, l, h⟩
theorem Mu.put {N : Addr → Prop} {k : Nat} {H H1 : Hp} {q : Addr} {xs ys : List V} (m : Mu N k H H1) (n : N q) (e : H q = some (.lst xs)) (e1 : H1 q = some (.lst ys)) : Mu N (k + 1) H (upd H1 q (.lst (ys ++ [.int 9]))) := fun a o ea => by
  by_cases c : a = q
  · subst c
    rw [e] at ea
    cases ea
    obtain ⟨j, l, h⟩ := m.lst e
    rw [e1] at h
    cases h
    exact .inr ⟨n, xs, j + 1, by omega, rfl, by rw [upd_same, List.replicate_succ', List.append_assoc]⟩
  · rw [upd_ne c]
    rcases m a o ea with h | ⟨n, xs, j, l, eo, h⟩
    · exact .inl h
    · exact .inr ⟨n, xs, j, by omega, eo, h⟩
theorem Mu.kt {N : Addr → Prop} {k : Nat} {H H1 : Hp} (m : Mu N k H H1) : Kt K H H1 := fun a xs q => by
  have st : ∀ {o}, H a = some o → (∀ ys, o ≠ .lst ys) → H1 a = some o := fun e n => by
    rcases m a _ e with h | ⟨_, ys, _, _, eo, _⟩
    · exact h
    · exact absurd eo (n ys)
  rcases q with (q | ⟨ob, q⟩) | q
  · exact .inl (.inl (st q fun _ z => by cases z))
  · exact .inl (.inr ⟨ob, st q fun _ z => by cases z⟩)
  · exact .inr q
theorem Mu.out {N : Addr → Prop} {k : Nat} {H H1 : Hp} (m : Mu N k H H1) {a : Addr} {u : HO} (n : ¬ N a) (e : H a = some u) : H1 a = some u := by
  rcases m a u e with h | ⟨h, _⟩
  · exact h
  · exact absurd h n
theorem Mu.ins {N : Addr → Prop} {k : Nat} {H H1 : Hp} (m : Mu N k H H1) {p C dx : Addr} {fs : List (Str × V)} (e : H p = some (.ins C dx fs)) : H1 p = some (.ins C dx fs) := by
  rcases m p _ e with h | ⟨_, ys, _, _, eo, _⟩
  · exact h
  · cases eo
theorem Mu.card {N : Addr → Prop} {k : Nat} {H H1 : Hp} (m : Mu N k H H1) {CC p : Addr} {q : Cd} (h : CardAt K CC H p q) : CardAt K CC H1 p q := by
  obtain ⟨dx, fs, o1, o2, o3, o4, hp, l1, l2, D1, l3, D2, l4, D3, l5, D4, no⟩ := h
  exact ⟨dx, fs, o1, o2, o3, o4, m.ins hp, l1, l2, D1.k m.kt, l3, D2.k m.kt, l4, D3.k m.kt, l5, D4.k m.kt, no⟩
/-- a list of N, a tuple, or nine -/
def Lk (K : PySem.W.Frag) (N : Addr → Prop) (H : Hp) (v : V) : Prop := (∃ a xs, v = .ref a ∧ N a ∧ H a = some (.lst xs) ∧ xs.length ≤ 20) ∨ (∃ a xs, v = .ref a ∧ SqT K H a xs) ∨ v = .int 9
theorem lk_en {N : Addr → Prop} {H : Hp} {v : V} {d : PyData} (h : En K N H v d) (s : seqB d = true) (l : (itm d).length ≤ 20) : Lk K N H v := by
  cases h with
  | tup a b => exact .inr (.inl ⟨_, _, rfl, a⟩)
  | lst n e r =>
    refine .inl ⟨_, _, rfl, n, e, ?_⟩
    rw [r.len]
    exact l
  | _ => cases s
/-- isinstance(v, list), and what comes of it -/
theorem lk_step {N : Addr → Prop} {k : Nat} {H H1 : Hp} {v : V} (h : Lk K N H v) (m : Mu N k H H1) (kb : k ≤ 100) : ∃ t b, TyX K H1 v t ∧ PySem.W.kitOne K t (.type "list") = some b ∧ (b = true → ∃ a ys, v = .ref a ∧ H a ≠ none ∧ H1 a = some (.lst ys) ∧ ys.length ≤ 200 ∧ Mu N (k + 1) H (upd H1 a (.lst (ys ++ [.int 9])))) := by
  rcases h with ⟨a, xs, rfl, n, e, l⟩ | ⟨a, xs, rfl, e⟩ | rfl
  · obtain ⟨j, lj, e1⟩ := m.lst e
    exact ⟨.type "list", true, .base (.lst e1), kit_ty (show _ = some true by decide +kernel), fun _ => ⟨a, _, rfl, by rw [e]; simp, e1, by rw [List.length_append, List.length_replicate]; omega, m.put n e e1⟩⟩
  · exact ⟨.type "tuple", false, tyT (m.kt a xs e), kit_ty (show _ = some false by decide +kernel), fun z => Bool.noConfusion z⟩
  · exact ⟨.type "int", false, .base (.int _), kit_ty (show _ = some false by decide +kernel), fun z => Bool.noConfusion z⟩
theorem Mu.mono {N : Addr → Prop} {k k2 : Nat} {H H1 : Hp} (m : Mu N k H H1) (l : k ≤ k2) : Mu N k2 H H1 := fun q o e => by
  rcases m q o e with h | ⟨n, xs, j, lj, eo, h⟩
  · exact .inl h
  · exact .inr ⟨n, xs, j, by omega, eo, h⟩
theorem row_le {ns : List Nat} (l : ∀ n ∈ ns, n ≤ 9) : ∀ c ∈ rowC ns, c ≤ 62 := fun c m => by
  rcases mem_joinL m with m | ⟨p, hp, m⟩
  · rw [List.mem_singleton] at m; omega
  · obtain ⟨n, hn, rfl⟩ := List.mem_map.mp hp
    have := l n hn
    rw [List.mem_singleton] at m
    omega
theorem line_le {q : Cd} (ok : CdOk q) : ∀ c ∈ lineC q, c ≤ 62 := fun c m => by
  unfold lineC at m
  rcases List.mem_append.mp m with m | m
  · obtain ⟨d, md, rfl⟩ := List.mem_map.mp m
    have := ok.num.dig d md
    omega
  rcases List.mem_append.mp m with m | m
  · simp at m; omega
  rcases mem_joinL m with m | ⟨p, hp, m⟩
  · simp at m; omega
  unfold partsC at hp
  rcases List.mem_cons.mp hp with rfl | hp
  · unfold ordC at m
    split at m
    · simp at m; omega
    · exact row_le (fun n hn => Nat.le_trans (ok.ord n hn) (by decide)) c m
  rcases List.mem_cons.mp hp with rfl | hp
  · exact row_le (fun n hn => Nat.le_trans (ok.c6 n hn) (by decide)) c m
  rcases List.mem_cons.mp hp with rfl | hp
  · exact row_le (fun n hn => Nat.le_trans (ok.o6 n hn) (by decide)) c m
  obtain ⟨x, hx, rfl⟩ := List.mem_map.mp hp
  have := ok.mv x hx
  unfold moveC at m
  simp only [List.mem_cons, List.not_mem_nil, or_false] at m
  omega
theorem mg_line {q : Cd} (ok : CdOk q) : Mg 0 100 (.str (lineT q)) := mg_str (List.all_eq_true.mpr fun c m => decide_eq_true (by have := line_le ok c m; omega)) (line_len ok)
theorem plain_two (a b : Str) : (PyData.tuple [.str a, .str b]).plain = true := by
  simp [PyData.plain, PyData.plainAll]
theorem eqv_two (a b : Str) : PyData.eqv (.tuple [.str a, .str b]) (.tuple [.str a, .str b]) = true := by
  simp [PyData.eqv, PyData.eqvAll]
def lone (q : Cd) : Cd := ⟨q.ds, q.order, q.counts, [0, 0, 0], []⟩
theorem lone_ok {q : Cd} (ok : CdOk q) : CdOk (lone q) := ⟨ok.num, ok.ord, ok.nd, ok.c3, ok.c6, rfl, fun k m => by
  simp [lone] at m
  omega, Nat.zero_le _, fun x m => by cases m⟩
theorem lone_fit (q : Cd) : Fit (.str (numS q.ds)) (iD q.order) (iD q.counts) (iD [0, 0, 0]) (mvD []) (lone q) := ⟨rfl, rfl, rfl, rfl, rfl, rfl, rfl, rfl, rfl, fun x m => by cases m⟩
theorem ok_kept (T : Txt K mg) : Rp.GOk P w K mg base CX0 10 T.a_kept T.d_kept ["_law_parts_here"] (sp_kept K T.CC) := by
  refine Rp.gok T.F_kept sc_kept (fun vs H Q E h => ?_) (fun cdv A outer s H vs Q E hg hr h => ?_)
  · obtain ⟨l, n, o, c, w0, m, N, q, rfl, _⟩ := h
    rfl
  · obtain ⟨l, n, o, c, w0, m, N, q, rfl, h5, nl, fit, ok, kf⟩ := h
    refine ⟨_, (pss_cons (ps_par (i := 1) (j := 2) rfl sc_kept.nd rfl rfl (by decide) rfl rfl (pa_cons (Rp.pe_gcall (ok_plain T) hg (hr.mono (by decide)) (by rfl) T.g_plain T.F_plain.kp T.b_plain .nil pass0 (pa_cons (pv 0) pa_nil)) (pa_cons (pe_call (ok_line T) (hr.mono (by decide)) (by rfl) T.g_line T.F_line.kp T.b_line .nil pass0 (pa_cons (pv 0) pa_nil)) pa_nil)) rfl)
      (pss_cons (ps_set (i := 3) sc_kept.nd rfl (Or.inl rfl) (pe_call (ok_tried T) (hr.mono (by decide)) (by rfl) T.g_tried T.F_tried.kp T.b_tried .nil pass0 (pa_cons (pv 0) pa_nil)))
      (pss_cons (ps_if (PW.pt (pw_or (pt_cmpR op_ne (pe_ix ix_tup (pv 3) pe_int (fun _ _ => rfl)) pe_str (nomark _)) (pw_or1 (pt_cmpR op_ne (Rp.pe_gcall (ok_shown T) hg (hr.mono (by decide)) (by rfl) T.g_shown T.F_shown.kp T.b_shown .nil pass0 (pa_cons (pe_ix ix_tup (pv 3) pe_int (fun _ _ => rfl)) pa_nil)) (pv 1) (nomark _)))))
        (pss_one (ps_ret pe_bl))
        pss_nil)
      (pss_cons (ps_for PassesOwn.never rfl (Kd.pi_seq (pe_slice sl_list (pv 0) (po_some pe_int) po_none)) (pg_name (i := 4) sc_kept.nd rfl (Or.inl rfl))
        (pss_one (ps_if (pt_val (pe_callB call_isi (by rfl) T.z_isinstance (by decide +kernel) (pa_cons (pv 4) (pa_cons (pe_bltn (v := V.ty "list") (by rfl) T.z_list (by decide +kernel) rfl) pa_nil))))
          (pss_one (ps_expr (pe_bm PySem.F.plainAttrs_list PySem.F.slot_list_append PySem.F.type_list_append mt_append (pv 4) (pa_cons pe_int pa_nil))))
          pss_nil)))
      (pss_cons (ps_for PassesOwn.never rfl (Kd.pi_seq (pe_slice (sl_K (K := K) rfl) (pe_ix ix_list (pv 0) pe_int (fun _ _ => rfl)) po_none (po_some (pe_un un_neg pe_int)))) (pg_name (i := 5) sc_kept.nd rfl (Or.inl rfl))
        (pss_one (ps_if (pt_val (pe_callB call_isi (by rfl) T.z_isinstance (by decide +kernel) (pa_cons (pv 5) (pa_cons (pe_bltn (v := V.ty "list") (by rfl) T.z_list (by decide +kernel) rfl) pa_nil))))
          (pss_one (ps_expr (pe_bm PySem.F.plainAttrs_list PySem.F.slot_list_append PySem.F.type_list_append mt_append (pv 5) (pa_cons pe_int pa_nil))))
          pss_nil)))
      (pss_cons (ps_set (i := 6) sc_kept.nd rfl (Or.inl rfl) (pe_ix ix_tup (pv 3) pe_int (fun _ _ => rfl)))
      (pss_cons (ps_if (PW.pt (pw_or (pt_cmpR op_ne (Rp.pe_gcall (ok_shown T) hg (hr.mono (by decide)) (by rfl) T.g_shown T.F_shown.kp T.b_shown .nil pass0 (pa_cons (pv 6) pa_nil)) (pv 1) (nomark _)) (pw_or1 (pt_cmpR op_ne (pe_callB (show CallR _ _ (De.rReprE K) from De.call_reprE hg hr.units) (by rfl) T.z_repr (by decide +kernel) (pa_cons (pe_call (ok_card_text T) (hr.mono (by decide)) (by rfl) T.g_card_text T.F_card_text.kp T.b_card_text .nil pass0 (pa_cons (pv 6) pa_nil)) pa_nil)) (pe_callB (show CallR _ _ (De.rReprE K) from De.call_reprE hg hr.units) (by rfl) T.z_repr (by decide +kernel) (pa_cons (pv 2) pa_nil)) (nomark _)))))
        (pss_one (ps_ret pe_bl))
        pss_nil)
      (pss_cons (ps_set (i := 7) sc_kept.nd rfl (Or.inl rfl) (pe_makeK T.mk_cinit (ok_cinit T) (hr.mono (by decide)) (by rfl) T.gCC T.kb1_cinit passFN (pa_cons (pe_fld (pv 6) rfl) (pa_cons (pe_fld (pv 6) rfl) pa_nil)) (pk_cons (pe_fld (pv 6) rfl) pk_nil)))
      (pss_cons (ps_if (pt_cmpR op_ne (pe_callB (show CallR _ _ (De.rReprE K) from De.call_reprE hg hr.units) (by rfl) T.z_repr (by decide +kernel) (pa_cons (Dz.pe_lstZ (pa_cons (pe_fld (pv 7) rfl) (pa_cons (pe_fld (pv 7) rfl) (pa_cons (ClX.pe_cval (pe_glob (v := V.ref T.CC) rfl T.gCC rfl)) pa_nil)))) pa_nil)) (pe_callB (show CallR _ _ (De.rReprE K) from De.call_reprE hg hr.units) (by rfl) T.z_repr (by decide +kernel) (pa_cons (Dz.pe_lstZ (pa_cons (pe_tup (pa_cons pe_int (pa_cons pe_int (pa_cons pe_int pa_nil)))) (pa_cons (pe_tup pa_nil) (pa_cons pe_int pa_nil)))) pa_nil)) (nomark _))
        (pss_one (ps_ret pe_bl))
        pss_nil)
      (pss_one (ps_ret (pe_and (pe_cmpR (Xe.op_eqP hr.units) (Rp.pe_gcall (ok_read_tried T) hg (hr.mono (by decide)) (by rfl) T.g_read_tried T.F_read_tried.kp T.b_read_tried .nil pass0 (pa_cons (pv 2) pa_nil)) (pe_tup (pa_cons pe_str (pa_cons (pv 1) pa_nil))) (nomark _)) (pe_one (pe_cmpR op_eq (Rp.pe_gcall (ok_shown T) hg (hr.mono (by decide)) (by rfl) T.g_shown T.F_shown.kp T.b_shown .nil pass0 (pa_cons (pv 6) pa_nil)) (pv 1) (nomark _))))))))))))))), ?_⟩
    have tx : TxOk n := fun t e => by
      rw [fit.hn] at e
      cases e
      rw [numS_len]
      have := num4 ok.num
      omega
    have lo : (itm o).length ≤ 1000 := by
      rw [fit.ho, nD_len]
      have := ord_len ok
      omega
    have ks5 : ∀ {Ha : Hp}, Same H Ha → Five K N Ha l n o c w0 m := fun s => by
      obtain ⟨x1, x2, x3, x4, x5, hl, d1, d2, d3, d4, d5⟩ := h5
      exact ⟨x1, x2, x3, x4, x5, s _ _ hl, d1.ks s, d2.ks s, d3.ks s, d4.ks s, d5.ks s⟩
    refine ⟨_, rfl, l, n, o, c, w0, m, N, q, rfl, h5, fit, ok, fun H1 s1 => ?_⟩
    refine ⟨_, rfl, l, n, o, c, w0, m, N, q, rfl, ks5 s1, fit, ok, fun H2 s2 => ⟨_, _, rfl, ?_⟩⟩
    have s2 := s1.trans s2
    refine ⟨_, rfl, l, n, o, c, w0, m, N, rfl, ks5 s2, tx, lo, fun H3 tt s3 alt => ?_⟩
    rcases alt with ⟨r, p, fr, okr, hT, hC⟩ | ⟨z, hz, _⟩
    case inr =>
      rw [fit.fault ok] at hz
      cases hz
    have er := fit.uniq fr
    subst er
    have s3 := s2.trans s3
    refine ⟨_, rfl, tt, _, 0, _, rfl, rfl, hT, atI_nat (j := 0) rfl, rfl, _, rfl, ?_⟩
    rw [show (!decide (V.str "card" = V.str "card")) = false by simp]
    refine iteF ⟨_, rfl, tt, _, 1, _, rfl, rfl, hT, atI_nat (j := 1) rfl, p, q, rfl, hC, ok, fun H4 s34 => ⟨_, rfl, rfl, _, rfl, ?_⟩⟩
    have s4 := s3.trans s34
    have hT := sameT s34 hT
    have hC := hC.ks s34
    refine iteN (by simp) ?_
    obtain ⟨x1, x2, x3, x4, x5, hl, d1, d2, d3, d4, d5⟩ := ks5 s4
    have i6 : ∀ {d ns}, itm d = nD ns → ns.length ≤ 6 → (itm d).length ≤ 20 := fun e l => by rw [e, nD_len]; omega
    have o6 := ord_len ok
    have c3 := ok.c3
    have w3 := ok.o3
    have m6 := ok.m6
    have lmv : (itm m).length ≤ 6 := by
      have e := congrArg List.length fit.hm
      rw [List.length_map, List.length_map] at e
      omega
    have k2 := lk_en d2 fit.os (i6 fit.ho o6)
    have k3 := lk_en d3 fit.cs (i6 fit.hc (by omega))
    have k4 := lk_en d4 fit.ws (i6 fit.hw (by omega))
    have k5 := lk_en d5 fit.ms (by omega)
    have nlN : ∀ {k B}, Mu N k H4 B → B l = some (.lst [x1, x2, x3, x4, x5]) := fun m => m.out nl hl
    refine ⟨_, rfl, 1, rfl, l, _, rfl, SqL.of hl, fun S hS => ?_⟩
    rw [show cutV [x1, x2, x3, x4, x5] (some 1) none = [x2, x3, x4, x5] from cut_from _ 1 (by simp)]
    refine ⟨S, _, false, rfl, SqL.of upd_same, fun J GG w hG => ?_⟩
    refine for_it w (fun j σ B => (∃ v4 : Option V, σ = [some (.ref l), some (.str (showD q).shown), some (.str (lineT q)), some (.ref tt), v4, none, none, none]) ∧ Mu N j H4 B ∧ B S = some (.lst [x2, x3, x4, x5]))
      ⟨⟨_, rfl⟩, Mu.refl.same (same_new hS), upd_same⟩ (fun j σ B _ h => hG _ (SqL.of h.2.2)) (fun j x σ B B' hj hP hY => ?_) (fun σ B hP => ?_)
    · obtain ⟨⟨v4, rfl⟩, mu, hSB⟩ := hP
      obtain ⟨rfl, hx⟩ := hY
      have hj : j < 4 := hj
      have lk : Lk K N H4 x := by
        match j, hj, hx with
        | 0, _, hx => cases hx; exact k2
        | 1, _, hx => cases hx; exact k3
        | 2, _, hx => cases hx; exact k4
        | 3, _, hx => cases hx; exact k5
      obtain ⟨ty, bb, t1, t2, st⟩ := lk_step lk mu (by omega)
      refine ⟨_, rfl, _, _, _, _, bb, rfl, .ty "list", t1, t2, bb, rfl, ?_⟩
      cases bb with
      | false => exact iteF ⟨⟨_, rfl⟩, mu.mono (by omega), hSB⟩
      | true =>
        obtain ⟨a, ys, rfl, na, ea, lys, mu2⟩ := st rfl
        have nSa : S ≠ a := fun e => na (by rw [← e]; exact hS)
        exact iteT ⟨_, rfl, .inl ⟨rfl, _, SqL.of ea⟩, a, _, _, rfl, rfl, ea, small1000 (by omega), ⟨_, rfl⟩, mu2, by rw [upd_ne nSa]; exact hSB⟩
    obtain ⟨⟨v4, rfl⟩, mu, _⟩ := hP
    have mu : Mu N 4 H4 B := mu
    have items : ∃ pm ys t5, x5 = .ref pm ∧ Kd.Is K t5 B pm ys ∧ ys.length ≤ 10 ∧ ∀ y ∈ ys, Lk K N H4 y := by
      have each : ∀ {xs : List V}, Ens K N H4 xs (itm m) → xs.length ≤ 6 ∧ ∀ y ∈ xs, Lk K N H4 y := fun r => by
        refine ⟨by rw [r.len]; exact lmv, fun y my => ?_⟩
        obtain ⟨i, hi⟩ := List.mem_iff_getElem?.mp my
        obtain ⟨z, hz, ez⟩ := r.at hi
        have mz := List.mem_of_getElem? hz
        refine lk_en ez (fit.mq z mz) ?_
        have e := List.mem_map_of_mem (f := fun x => PyData.tuple (itm x)) mz
        rw [fit.hm] at e
        obtain ⟨x, _, e⟩ := List.mem_map.mp e
        have e : itm z = nD [x.1, x.2] := (PyData.tuple.inj e).symm
        rw [e, nD_len]
        simp
      cases d5 with
      | tup a r => exact ⟨_, _, true, rfl, mu.kt _ _ a, Nat.le_trans (each r).1 (by decide), (each r).2⟩
      | lst n e r =>
        obtain ⟨j, lj, e1⟩ := mu.lst e
        have lj : j ≤ 4 := lj
        refine ⟨_, _, false, rfl, SqL.of e1, ?_, fun y my => ?_⟩
        · rw [List.length_append, List.length_replicate]
          have := (each r).1
          omega
        · rcases List.mem_append.mp my with my | my
          · exact (each r).2 y my
          · rw [(List.mem_replicate.mp my).2]; exact .inr (.inr rfl)
      | _ => have := fit.ms; cases this
    obtain ⟨pm, ys, t5, rfl, hI, lys, lk5⟩ := items
    have hl1 := nlN mu
    refine ⟨_, rfl, l, _, 4, _, rfl, rfl, SqL.of hl1, atI_nat (j := 4) rfl, _, rfl, _, rfl, pm, ys, t5, rfl, hI, fun cp u B1 sB hIc fr => ?_⟩
    have hmu := mu
    have lc : (cutV ys none (some (-1))).length ≤ 10 := Nat.le_trans (cutV_length _ _ _) lys
    have mu := mu.same sB
    refine ⟨cp, _, u, rfl, hIc, fun J GG w hG => ?_⟩
    have isC : ∀ {B' : Hp}, (u = false → B' cp = some (.lst (cutV ys none (some (-1))))) → (u = true → SqT K B' cp (cutV ys none (some (-1)))) → Kd.Is K u B' cp (cutV ys none (some (-1))) := fun a b => by
      cases u with
      | false => exact SqL.of (a rfl)
      | true => exact b rfl
    refine for_it w (fun j σ B' => (∃ v4 v5 : Option V, σ = [some (.ref l), some (.str (showD q).shown), some (.str (lineT q)), some (.ref tt), v4, v5, none, none]) ∧ Mu N (4 + j) H4 B' ∧ (u = false → B' cp = some (.lst (cutV ys none (some (-1))))) ∧ (u = true → SqT K B' cp (cutV ys none (some (-1)))))
      ⟨⟨_, _, rfl⟩, mu, fun e => (fr e).2, fun e => by subst e; exact hIc⟩ (fun j σ B' _ h => hG _ (isC h.2.2.1 h.2.2.2)) (fun j x σ B' B2 hj hP hY => ?_) (fun σ B2 hP => ?_)
    · obtain ⟨⟨v4, v5, rfl⟩, mu, p1, p2⟩ := hP
      obtain ⟨rfl, hx⟩ := hY
      have lk := lk5 x (cut_mem (List.mem_of_getElem? hx))
      obtain ⟨ty, bb, t1, t2, st⟩ := lk_step lk mu (by omega)
      refine ⟨_, rfl, _, _, _, _, bb, rfl, .ty "list", t1, t2, bb, rfl, ?_⟩
      cases bb with
      | false => exact iteF ⟨⟨_, _, rfl⟩, mu.mono (by omega), p1, p2⟩
      | true =>
        obtain ⟨a, zs, rfl, na, ea, lzs, mu2⟩ := st rfl
        have nca : u = false → cp ≠ a := fun e z => by
          have h1 := (fr e).1
          cases e4 : H4 a with
          | none => exact na e4
          | some o =>
            rcases hmu a o e4 with h | ⟨_, _, _, _, _, h⟩
            · rw [z, h] at h1; cases h1
            · rw [z, h] at h1; cases h1
        exact iteT ⟨_, rfl, .inl ⟨rfl, _, SqL.of ea⟩, a, _, _, rfl, rfl, ea, small1000 (by omega), ⟨_, _, rfl⟩, mu2, fun e => by rw [upd_ne (nca e)]; exact p1 e, fun e => Kt.lst ea _ _ (p2 e)⟩
    obtain ⟨⟨v4, v5, rfl⟩, mu, _, _⟩ := hP
    have hT := mu.kt _ _ hT
    have hC := mu.card hC
    refine ⟨_, rfl, tt, _, 1, _, rfl, rfl, hT, atI_nat (j := 1) rfl, ?_⟩
    refine ⟨_, rfl, p, q, rfl, hC, ok, fun B3 sB3 => ⟨_, rfl, rfl, _, rfl, iteN (by simp) ?_⟩⟩
    have mu := mu.same sB3
    have hC := hC.ks sB3
    refine ⟨_, rfl, p, q, rfl, hC, ok, fun B4 sB4 => ?_⟩
    have mgl := mg_line ok
    refine ⟨.str (lineT q), .str (lineT q), fun _ => False, rfl, fun _ h => h.elim, .str _, mgl.sh, Nat.le_trans mgl.dp (by decide), mgl.fits (by decide), _, rfl, .str (lineT q), .str (lineT q), fun _ => False, rfl, fun _ h => h.elim, .str _, mgl.sh, Nat.le_trans mgl.dp (by decide), mgl.fits (by decide), rfl, _, rfl, iteN (by simp) ?_⟩
    have mu := mu.same sB4
    have hC := hC.ks sB4
    obtain ⟨dx, fs, o1, o2, o3, o4, hp, l1, l2, D1, l3, D2, l4, D3, l5, D4, no⟩ := id hC
    refine ⟨_, rfl, p, T.CC, dx, fs, _, rfl, hp, T.clCC, T.nNu, l1, _, rfl, p, T.CC, dx, fs, _, rfl, hp, T.clCC, T.nOr, l2, _, rfl, p, T.CC, dx, fs, _, rfl, hp, T.clCC, T.nCo, l3, rfl, rfl, fun x dx2 hx hdx nx => ?_⟩
    have sX : Same B4 (upd (upd B4 dx2 (.own x)) x (.ins T.CC dx2 [])) := (same_new hdx).trans (same_new (by rw [upd_ne (fun e => nx e.symm)]; exact hx))
    refine ⟨x, dx2, _, _, _, _, _, .str (numS q.ds), iD q.order, iD q.counts, iD [0, 0, 0], mvD [], fun _ => False, rfl, upd_same, .str _, .ofDt _ _ (D1.k (Kt.same sX)), .ofDt _ _ (D2.k (Kt.same sX)), .tup (T.tOt _) (nV_ens [0, 0, 0]), .tup (T.tMt _) .nil, fun t e => by cases e; rw [numS_len]; have := num4 ok.num; omega, by show (nD q.order).length ≤ 1000; rw [nD_len]; omega, fun r fr2 okr B5 off5 hC5 => ⟨rfl, ?_⟩, fun z hz => ?_⟩
    case refine_2 =>
      rw [(lone_fit q).fault (lone_ok ok)] at hz
      cases hz
    have er := (lone_fit q).uniq fr2
    subst er
    have s5 : Same B4 B5 := fun a o e => off5 _ _ (fun z => by rw [z, hx] at e; cases e) (sX _ _ e)
    have mu := mu.same s5
    have hC := hC.ks s5
    obtain ⟨dxl, fsl, r1, r2, r3, r4, hpl, _, _, _, _, _, m4, L3, m5, L4, _⟩ := hC5
    refine ⟨_, rfl, x, T.CC, dxl, fsl, _, rfl, hpl, T.clCC, T.nOw, m4, _, rfl, x, T.CC, dxl, fsl, _, rfl, hpl, T.clCC, T.nMo, m5, T.CC, T.mcC, _, _, rfl, T.rdC, T.vG, small_len (by show 3 ≤ 100000; decide), fun L nL hL => ?_⟩
    have sL := same_new (o := .lst [r3, r4, .int 3]) hL
    have mgd : Mg 4 1000 (.list [iD [0, 0, 0], mvD [], .int 3]) := mgB_mg (by decide +kernel)
    refine ⟨_, .list [iD [0, 0, 0], mvD [], .int 3], fun a => a ≠ sysModules, rfl, fun _ h => h, .lst nL upd_same (.cons (.ofDt _ _ (Dt.k L3 (Kt.same sL))) (.cons (.ofDt _ _ (Dt.k L4 (Kt.same sL))) (.cons (.int 3) .nil))), mgd.sh, Nat.le_trans mgd.dp (by decide), mgd.fits (by decide), ?_⟩
    have mu := mu.same sL
    have hC := hC.ks sL
    generalize upd B5 L (.lst [r3, r4, .int 3]) = B6 at *
    refine ⟨small_len (by show 3 ≤ 100000; decide), fun ta hta => ⟨small_len (by show 0 ≤ 100000; decide), fun tb htb => ⟨small_len (by show 3 ≤ 100000; decide), fun L2 nL2 hL2 => ?_⟩⟩⟩
    have sa := same_new (o := .tup [.int 0, .int 0, .int 0]) hta
    have sb := same_new (o := .tup []) htb
    have sc := same_new (o := .lst [.ref ta, .ref tb, .int 3]) hL2
    refine ⟨_, .list [iD [0, 0, 0], mvD [], .int 3], fun a => a ≠ sysModules, rfl, fun _ h => h, .lst nL2 upd_same (.cons (.tup (sameT (sb.trans sc) (.inl (.inl upd_same))) (nV_ens [0, 0, 0])) (.cons (.tup (sameT sc (.inl (.inl upd_same))) .nil) (.cons (.int 3) .nil))), mgd.sh, Nat.le_trans mgd.dp (by decide), mgd.fits (by decide), rfl, _, rfl, iteN (by simp) ?_⟩
    have mu := mu.same ((sa.trans sb).trans sc)
    have hC := hC.ks ((sa.trans sb).trans sc)
    refine ⟨_, rfl, .str (lineT q), .str (lineT q), fun _ => False, rfl, .str _, .inl ⟨lineT q, rfl, ?_, fun H9 u9 y9 z9 s9 hT9 due => ?_⟩⟩
    · have := line_len ok
      show (lineT q).length ≤ 900
      unfold lineT
      rw [SX.S_len]
      omega
    obtain ⟨rfl, rfl⟩ : y9 = "card" ∧ z9 = (showD q).shown := by
      rcases due with ⟨r, okr, er, e1, e2⟩ | ⟨no, _⟩
      · have er := line_inj ok okr (SX.S_inj er)
        subst er
        exact ⟨e1, e2⟩
      · exact absurd rfl (no q ok)
    have mu := mu.same s9
    have hC := hC.ks s9
    refine ⟨_, rfl, small_len (by show 2 ≤ 100000; decide), fun t9 ht9 => ?_⟩
    have st := same_new (o := .tup [.str "card", .str (showD q).shown]) ht9
    refine ⟨.tuple [.str "card", .str (showD q).shown], .tuple [.str "card", .str (showD q).shown], Dt.toDp (.tup (sameT st hT9) (.cons (.str _) (.cons (.str _) .nil))), Dt.toDp (.tup (.inl (.inl upd_same)) (.cons (.str _) (.cons (.str _) .nil))), plain_two _ _, plain_two _ _, by simp [PyData.depth, PyData.depthAll], _, rfl, iteY (eqv_two _ _) ?_⟩
    have mu := mu.same st
    have hC := hC.ks st
    refine ⟨_, rfl, p, q, rfl, hC, ok, fun HZ sZ => ⟨_, rfl, rfl, ?_⟩⟩
    have mu := mu.same sZ
    rw [show decide (V.str (showD q).shown = V.str (showD q).shown) = true by simp]
    exact kf _ (fun a u n e => mu.out n (s4 _ _ e)) ((Kt.same s4).trans mu.kt)
end
end K54

namespace K54
open PySem L2 Wm TL Dv De
section
variable {P : Program} {w : World} {K : PySem.W.Frag} {mg : Str → Option Value} {base : Heap}
theorem bu_same {H H1 H2 : Hp} {b : Addr} (s1 : Same H H1) (hb : H b = none) (bu : Off b H1 H2) : Same H H2 := fun q o e => bu q o (fun z => by subst z; rw [hb] at e; cases e) (s1 q o e)
theorem if_fls {tt : TT} {a rest : TS} {D : Ends} {σ : L2.St} {H : Hp} (h : ∀ Q : Bool → Hp → Prop, (∀ H1, Same H H1 → Q false H1) → tt σ H Q) (k : ∀ H1, Same H H1 → rest D σ H1) : tSeq (tIfS tt a tNext) rest D σ H := h _ fun H1 s => iteF (k H1 s)
theorem if_fls1 {tt : TT} {a : TS} {D : Ends} {σ : L2.St} {H : Hp} (h : ∀ Q : Bool → Hp → Prop, (∀ H1, Same H H1 → Q false H1) → tt σ H Q) (k : ∀ H1, Same H H1 → D.nx σ H1) : tIfS tt a tNext D σ H := h _ fun H1 s => iteF (k H1 s)
theorem set_fls {i : Nat} {x : V} {tt : TT} {a rest : TS} {D : Ends} {rt : V → Hp → Prop} {bk ct : L2.St → Hp → Prop} {σ : L2.St} {H : Hp} (h : ∀ Q : Bool → Hp → Prop, (∀ H1, Same H H1 → Q false H1) → tt (σ.set i (some x)) H Q) (k : ∀ H1, Same H H1 → rest D (σ.set i (some x)) H1) : gName i x σ H (Ends.nx { nx := tSeq (tIfS tt a tNext) rest D, rt := rt, bk := bk, ct := ct }) := h _ fun H1 s => iteF (k H1 s)
theorem ixN_at {n j : Nat} (h : j < n) : ixN n (j : Int) = some j := by
  unfold ixN
  rw [if_pos (by omega), if_pos (by omega), Int.toNat_natCast]
theorem Due.uniq {u y z y2 z2 : Str} (a : Due u y z) (b : Due u y2 z2) : y = y2 ∧ z = z2 := by
  rcases a with ⟨q, ok, e, rfl, rfl⟩ | ⟨no, rfl, rfl⟩
  · rcases b with ⟨r, ok2, e2, rfl, rfl⟩ | ⟨no, _⟩
    · have := line_inj ok ok2 (SX.S_inj (e.symm.trans e2))
      subst this
      exact ⟨rfl, rfl⟩
    · exact absurd e (no q ok)
  · rcases b with ⟨r, ok2, e2, _⟩ | ⟨_, rfl, rfl⟩
    · exact absurd e2 (no r ok2)
    · exact ⟨rfl, rfl⟩
theorem Five.ks {N : Addr → Prop} {H H' : Hp} {l : Addr} {n o c w m : PyData} (h : Five K N H l n o c w m) (s : Same H H') : Five K N H' l n o c w m := by
  obtain ⟨x1, x2, x3, x4, x5, hl, d1, d2, d3, d4, d5⟩ := h
  exact ⟨x1, x2, x3, x4, x5, s _ _ hl, d1.ks s, d2.ks s, d3.ks s, d4.ks s, d5.ks s⟩
theorem Five.kk {N M : Addr → Prop} {H H' : Hp} {l : Addr} {n o c w m : PyData} (h : Five K N H l n o c w m) (k : Kt K H H') (f : ∀ a u, N a → H a = some u → M a ∧ H' a = some u) (hl2 : ∀ u, H l = some u → H' l = some u) : Five K M H' l n o c w m := by
  obtain ⟨x1, x2, x3, x4, x5, hl, d1, d2, d3, d4, d5⟩ := h
  exact ⟨x1, x2, x3, x4, x5, hl2 _ hl, En.kk k f _ _ d1, En.kk k f _ _ d2, En.kk k f _ _ d3, En.kk k f _ _ d4, En.kk k f _ _ d5⟩
theorem Five.off {N : Addr → Prop} {H H' : Hp} {b l : Addr} {n o c w m : PyData} (h : Five K N H l n o c w m) (hN : ∀ a, N a → a ≠ b) (nl : l ≠ b) (hb : Bk H b) (f : Off b H H') : Five K N H' l n o c w m := h.kk (hb.kt f) (fun a u n e => ⟨n, f a u (hN a n) e⟩) fun u e => f l u nl e
theorem mg_row {d : PyData} {ns : List Nat} (s : seqB d = true) (e : itm d = nD ns) (l9 : ∀ n ∈ ns, n ≤ 9) (l6 : ns.length ≤ 6) : Mg 1 6 d := mg_seq (n := 0) (w := 0) (k := 6) s (by rw [e]; exact mg_nD l9) (by rw [e, nD_len]; exact l6)
theorem mg_mvs {n o c w m : PyData} {q : Cd} (fit : Fit n o c w m q) (ok : CdOk q) : Mg 2 42 m := by
  refine mg_seq (n := 1) (w := 6) (k := 6) fit.ms (fun x hx => ?_) ?_
  · have e := List.mem_map_of_mem (f := fun x => PyData.tuple (itm x)) hx
    rw [fit.hm] at e
    obtain ⟨y, hy, e⟩ := List.mem_map.mp e
    have e : itm x = nD [y.1, y.2] := (PyData.tuple.inj e).symm
    have := ok.mv y hy
    refine mg_row (fit.mq x hx) e (fun n h => ?_) (by simp)
    rcases List.mem_cons.mp h with rfl | h
    · omega
    · rw [List.mem_singleton.mp h]; omega
  · have e := congrArg List.length fit.hm
    rw [List.length_map, List.length_map] at e
    have := ok.m6
    omega
theorem fit_mgs {n o c w m : PyData} {q : Cd} (fit : Fit n o c w m q) (ok : CdOk q) : ∀ d ∈ [n, o, c, w, m], Mg 4 1000 d := fun d md => by
  have o6 := ord_len ok
  have a1 : Mg 4 1000 n := by rw [fit.hn]; exact mg_num ok.num (by decide)
  have a2 : Mg 4 1000 o := (mg_row fit.os fit.ho (fun n h => Nat.le_trans (ok.ord n h) (by decide)) o6).mono (by decide) (by decide)
  have a3 : Mg 4 1000 c := (mg_row fit.cs fit.hc (fun n h => Nat.le_trans (ok.c6 n h) (by decide)) (by rw [ok.c3]; decide)).mono (by decide) (by decide)
  have a4 : Mg 4 1000 w := (mg_row fit.ws fit.hw (fun n h => Nat.le_trans (ok.o6 n h) (by decide)) (by rw [ok.o3]; decide)).mono (by decide) (by decide)
  have a5 : Mg 4 1000 m := (mg_mvs fit ok).mono (by decide) (by decide)
  rcases List.mem_cons.mp md with h | md
  · rw [h]; exact a1
  rcases List.mem_cons.mp md with h | md
  · rw [h]; exact a2
  rcases List.mem_cons.mp md with h | md
  · rw [h]; exact a3
  rcases List.mem_cons.mp md with h | md
  · rw [h]; exact a4
  rw [List.mem_singleton.mp md]
  exact a5
theorem ok_law (T : Txt K mg) : Rp.GOk P w K mg base CX0 11 T.a_law T.d_law ["_law_script"] (sp_law K) := by
  refine Rp.gok T.F_law sc_law (fun vs H Q E h => ?_) (fun cdv A outer s H vs Q E hg hr h => ?_)
  · obtain ⟨a, ns, rfl, _⟩ := h
    rfl
  · obtain ⟨a, ns, rfl, hS, few, k⟩ := h
    refine ⟨_, (pss_cons (ps_for PassesOwn.never rfl (pi_range1 (by rfl) T.z_range (pa_cons (pe_callB (call_max2 rfl) (by rfl) T.z_max (by decide +kernel) (pa_cons pe_int (pa_cons (pe_callB (call_min2 rfl) (by rfl) T.z_min (by decide +kernel) (pa_cons pe_int (pa_cons (pe_callB call_len_seq (by rfl) T.z_len PySem.boot_len (pa_cons (pv 0) pa_nil)) pa_nil))) pa_nil))) pa_nil)) (pg_name (i := 1) sc_law.nd rfl (Or.inl rfl))
        (pss_cons (ps_set (i := 2) sc_law.nd rfl (Or.inl rfl) (pe_call (ok_bag T) (hr.mono (by decide)) (by rfl) T.g_bag T.F_bag.kp T.b_bag .nil pass0 (pa_cons (pv 0) (pa_cons (pv 1) pa_nil))))
        (pss_one (ps_for PassesOwn.never rfl (pi_range1 (by rfl) T.z_range (pa_cons pe_int pa_nil)) (pg_name (i := 3) sc_law.nd rfl (Or.inl rfl))
          (pss_cons (ps_set (i := 4) sc_law.nd rfl (Or.inl rfl) (pe_call (ok_parts T) (hr.mono (by decide)) (by rfl) T.g_parts T.F_parts.kp T.b_parts .nil pass0 (pa_cons (pv 2) pa_nil)))
          (pss_cons (ps_set (i := 5) sc_law.nd rfl (Or.inl rfl) (pe_call (ok_line T) (hr.mono (by decide)) (by rfl) T.g_line T.F_line.kp T.b_line .nil pass0 (pa_cons (pv 4) pa_nil)))
          (pss_cons (ps_for PassesOwn.never rfl (pi_range1 (by rfl) T.z_range (pa_cons pe_int pa_nil)) (pg_name (i := 6) sc_law.nd rfl (Or.inl rfl))
            (pss_cons (ps_set (i := 7) sc_law.nd rfl (Or.inl rfl) (pe_call (ok_bent T) (hr.mono (by decide)) (by rfl) T.g_bent T.F_bent.kp T.b_bent .nil pass0 (pa_cons (pv 2) (pa_cons (pv 5) pa_nil))))
            (pss_cons (ps_set (i := 8) sc_law.nd rfl (Or.inl rfl) (pe_call (ok_read T) (hr.mono (by decide)) (by rfl) T.g_read T.F_read.kp T.b_read .nil pass0 (pa_cons (pv 7) pa_nil)))
            (pss_cons (ps_set (i := 9) sc_law.nd rfl (Or.inl rfl) (pe_ifExp (pt_cmpR op_isN (pv 8) pe_non (nomark _)) (pe_tup (pa_cons pe_str (pa_cons (pv 7) pa_nil))) (pe_tup (pa_cons pe_str (pa_cons (Rp.pe_gcall (ok_plain T) hg (hr.mono (by decide)) (by rfl) T.g_plain T.F_plain.kp T.b_plain .nil pass0 (pa_cons (pv 8) pa_nil)) pa_nil)))))
            (pss_one (ps_if (pt_cmpR (Ne2.op_ne2 hr.units) (Rp.pe_gcall (ok_read_tried T) hg (hr.mono (by decide)) (by rfl) T.g_read_tried T.F_read_tried.kp T.b_read_tried .nil pass0 (pa_cons (pv 7) pa_nil)) (pv 9) (nomark _))
              (pss_one (ps_ret pe_bl))
              pss_nil))))))
          (pss_cons (ps_set (i := 10) sc_law.nd rfl (Or.inl rfl) (pe_callTy (call_lstS (K := K) rfl) (by rfl) T.z_list (by decide +kernel) (pa_cons (pv 4) pa_nil)))
          (pss_cons (ps_for PassesOwn.never rfl (pi_range1 (by rfl) T.z_range (pa_cons (pe_op op_add pe_int (pe_call (ok_take T) (hr.mono (by decide)) (by rfl) T.g_take T.F_take.kp T.b_take .nil pass0 (pa_cons (pv 2) (pa_cons pe_int pa_nil)))) pa_nil)) (pg_name (i := 6) sc_law.nd rfl (Or.inl rfl))
            (pss_cons (ps_set (i := 11) sc_law.nd rfl (Or.inl rfl) (pe_call (ok_take T) (hr.mono (by decide)) (by rfl) T.g_take T.F_take.kp T.b_take .nil pass0 (pa_cons (pv 2) (pa_cons pe_int pa_nil))))
            (pss_one (ps_asg (pe_call (ok_odd T) (hr.mono (by decide)) (by rfl) T.g_odd T.F_odd.kp T.b_odd .nil pass0 (pa_cons (pv 2) (pa_cons (pv 11) pa_nil))) (pg_sub (pv 10) (pv 11) set_list)))))
          (pss_cons (ps_par (i := 12) (j := 13) rfl sc_law.nd rfl rfl (by decide) rfl rfl (pa_cons (pe_call (ok_fault T) (hr.mono (by decide)) (by rfl) T.g_fault T.F_fault.kp T.b_fault .nil pass0 (pa_cons (pv 10) pa_nil)) (pa_cons (pe_callB (show CallR _ _ (De.rReprE K) from De.call_reprE hg hr.units) (by rfl) T.z_repr (by decide +kernel) (pa_cons (pv 10) pa_nil)) pa_nil)) rfl)
          (pss_cons (ps_set (i := 14) sc_law.nd rfl (Or.inl rfl) (pe_call (ok_tried T) (hr.mono (by decide)) (by rfl) T.g_tried T.F_tried.kp T.b_tried .nil pass0 (pa_cons (pv 10) pa_nil)))
          (pss_cons (ps_if (PW.pt (pw_or (PW.pt (pw_and (pt_cmpR op_notN (pv 12) pe_non (nomark _)) (pw_and1 (pt_cmpR (Ne2.op_ne2 hr.units) (pv 14) (pe_tup (pa_cons pe_str (pa_cons (pv 12) pa_nil))) (nomark _))))) (pw_or1 (pt_cmpR op_ne (pe_callB (show CallR _ _ (De.rReprE K) from De.call_reprE hg hr.units) (by rfl) T.z_repr (by decide +kernel) (pa_cons (pv 10) pa_nil)) (pv 13) (nomark _)))))
            (pss_one (ps_ret pe_bl))
            pss_nil)
          (pss_cons (ps_if (PW.pt (pw_and (pt_cmpR op_isN (pv 12) pe_non (nomark _)) (pw_and1 (PW.pt (pw_or (pt_cmpR op_ne (pe_ix ix_tup (pv 14) pe_int (fun _ _ => rfl)) pe_str (nomark _)) (pw_or1 (pt_cmpR op_ne (Rp.pe_gcall (ok_shown T) hg (hr.mono (by decide)) (by rfl) T.g_shown T.F_shown.kp T.b_shown .nil pass0 (pa_cons (pe_ix ix_tup (pv 14) pe_int (fun _ _ => rfl)) pa_nil)) (Rp.pe_gcall (ok_plain T) hg (hr.mono (by decide)) (by rfl) T.g_plain T.F_plain.kp T.b_plain .nil pass0 (pa_cons (pv 10) pa_nil)) (nomark _))))))))
            (pss_one (ps_ret pe_bl))
            pss_nil)
          (pss_cons (ps_for PassesOwn.never rfl (Kd.pi_seq (Dz.pe_lstZ (pa_cons (pe_ix ix_list (pv 10) pe_int (fun _ _ => rfl)) (pa_cons (pe_ix ix_list (pv 10) pe_int (fun _ _ => rfl)) (pa_cons (pe_ix ix_list (pv 4) pe_int (fun _ _ => rfl)) (pa_cons (pe_op op_cat (pe_callTy (call_lstS (K := K) rfl) (by rfl) T.z_list (by decide +kernel) (pa_cons (pe_ix ix_list (pv 4) pe_int (fun _ _ => rfl)) pa_nil)) (Dz.pe_lstZ (pa_cons pe_int pa_nil))) (pa_cons (Dz.pe_lstZ pa_nil) (pa_cons (pe_op op_rep (Dz.pe_lstZ (pa_cons pe_int pa_nil)) pe_int) (pa_cons (pe_op (show OpR _ _ (Tu1.rRepB K) from Tu1.op_repB) (pe_tup (pa_cons pe_int pa_nil)) pe_int) (pa_cons (Dz.pe_lstZ (pa_cons pe_bl pa_nil)) (pa_cons pe_str pa_nil))))))))))) (pg_name (i := 15) sc_law.nd rfl (Or.inl rfl))
            (pss_one (ps_if (pt_cmpR op_ne (pe_callB (show CallR _ _ (De.rReprE K) from De.call_reprE hg hr.units) (by rfl) T.z_repr (by decide +kernel) (pa_cons (pe_call (ok_is_stations T) (hr.mono (by decide)) (by rfl) T.g_is_stations T.F_is_stations.kp T.b_is_stations .nil pass0 (pa_cons (pv 15) pa_nil)) pa_nil)) (pe_callB (show CallR _ _ (De.rReprE K) from De.call_reprE hg hr.units) (by rfl) T.z_repr (by decide +kernel) (pa_cons (pe_call (ok_is_row T) (hr.mono (by decide)) (by rfl) T.g_is_row T.F_is_row.kp T.b_is_row .nil pass0 (pa_cons (pv 15) (pa_cons pe_int (pa_cons pe_int (pa_cons pe_int pa_nil))))) pa_nil)) (nomark _))
              (pss_one (ps_ret pe_bl))
              pss_nil)))
          (pss_one (ps_if (pt_not (pt_val (Rp.pe_gcall (ok_kept T) hg (hr.mono (by decide)) (by rfl) T.g_kept T.F_kept.kp T.b_kept .nil pass0 (pa_cons (pv 4) pa_nil))))
            (pss_one (ps_ret pe_bl))
            pss_nil))))))))))))))))
      (pss_cons (ps_for PassesOwn.never rfl (Kd.pi_seq (Dz.pe_lstZ (pa_cons pe_non (pa_cons pe_bl (pa_cons pe_int (pa_cons (Dz.pe_lstZ pa_nil) (pa_cons (Dz.pe_lstZ (pa_cons pe_str pa_nil)) (pa_cons (pe_tup pa_nil) (pa_cons Dz.pe_dnewZ pa_nil))))))))) (pg_name (i := 15) sc_law.nd rfl (Or.inl rfl))
        (pss_cons (ps_set (i := 14) sc_law.nd rfl (Or.inl rfl) (Rp.pe_gcall (ok_read_tried T) hg (hr.mono (by decide)) (by rfl) T.g_read_tried T.F_read_tried.kp T.b_read_tried .nil pass0 (pa_cons (pv 15) pa_nil)))
        (pss_one (ps_if (PW.pt (pw_or (pt_cmpR op_ne (pe_ix ix_tup (pv 14) pe_int (fun _ _ => rfl)) pe_str (nomark _)) (pw_or1 (pt_cmpR op_ne (pe_callB (show CallR _ _ (De.rReprE K) from De.call_reprE hg hr.units) (by rfl) T.z_repr (by decide +kernel) (pa_cons (pe_ix ix_tup (pv 14) pe_int (fun _ _ => rfl)) pa_nil)) (pe_callB (show CallR _ _ (De.rReprE K) from De.call_reprE hg hr.units) (by rfl) T.z_repr (by decide +kernel) (pa_cons (pv 15) pa_nil)) (nomark _)))))
          (pss_one (ps_ret pe_bl))
          pss_nil))))
      (pss_one (ps_ret pe_bl)))), ?_⟩
    refine ⟨_, rfl, a, _, rfl, .inl hS, _, _, rfl, _, _, rfl, _, rfl, ?_⟩
    rw [List.length_map]
    obtain ⟨n, en, n1, n6⟩ : ∃ n : Nat, (if (if ((ns.length : Nat) : Int) < 6 then ((ns.length : Nat) : Int) else 6) > 1 then (if ((ns.length : Nat) : Int) < 6 then ((ns.length : Nat) : Int) else 6) else 1) = (n : Int) ∧ 1 ≤ n ∧ n ≤ 6 := by
      refine ⟨if ns.length < 1 then 1 else if ns.length < 6 then ns.length else 6, ?_, ?_, ?_⟩
      all_goals repeat' split
      all_goals omega
    rw [en]
    refine ⟨by omega, by omega, ?_⟩
    rw [Int.toNat_natCast]
    refine for_range (fun i σ B => (∃ v1 v2 v3 v4 v5 v6 v7 v8 v9 v10 v11 v12 v13 v14 v15 : Option V, σ = [some (.ref a), v1, v2, v3, v4, v5, v6, v7, v8, v9, v10, v11, v12, v13, v14, v15]) ∧ Same H B)
      ⟨⟨_, _, _, _, _, _, _, _, _, _, _, _, _, _, _, rfl⟩, Same.refl _⟩ (fun i σ B hi hP => ?_) (fun σ B hP => ?_)
    · obtain ⟨⟨v1, v2, v3, v4, v5, v6, v7, v8, v9, v10, v11, v12, v13, v14, v15, rfl⟩, sB⟩ := hP
      refine ⟨_, rfl, _, rfl, a, ns, 0 + i, by simp, Hf.keepL sB hS, few, by omega, fun H1 b s1 nb hb => ?_⟩
      have hb0 : H b = none := none_of sB nb
      have s1 := sB.trans s1
      refine ⟨_, rfl, by decide, by decide, ?_⟩
      refine for_range (fun j σ B => (∃ v1 v3 v4 v5 v6 v7 v8 v9 v10 v11 v12 v13 v14 v15 : Option V, σ = [some (.ref a), v1, some (.ref b), v3, v4, v5, v6, v7, v8, v9, v10, v11, v12, v13, v14, v15]) ∧ Same H B ∧ Bk B b)
        ⟨⟨_, _, _, _, _, _, _, _, _, _, _, _, _, _, rfl⟩, s1, hb⟩ (fun j σ B hj hP => ?_) (fun σ B hP => ?_)
      case refine_2 =>
        obtain ⟨⟨v1, v3, v4, v5, v6, v7, v8, v9, v10, v11, v12, v13, v14, v15, rfl⟩, sB, _⟩ := hP
        exact ⟨⟨_, _, _, _, _, _, _, _, _, _, _, _, _, _, _, rfl⟩, sB⟩
      obtain ⟨⟨v1, v3, v4, v5, v6, v7, v8, v9, v10, v11, v12, v13, v14, v15, rfl⟩, sB, hb⟩ := hP
      refine ⟨_, rfl, b, rfl, hb, fun H2 l q o c w m off2 hb2 nl ok five fit => ?_⟩
      have s2 := bu_same sB hb0 off2
      have nlb : l ≠ b := hb.off nl
      have Nb : ∀ x, Np b l B x → x ≠ b := fun x h => h.1.2.1
      refine ⟨_, rfl, l, _, _, _, _, _, _, q, rfl, five, fit, ok, fun H3 s3 => ?_⟩
      have five := five.ks s3
      have hb3 := hb2.k s3
      have s3 := s2.trans s3
      refine ⟨_, rfl, by decide, by decide, ?_⟩
      refine for_range (fun j σ B' => (∃ v1 v3 v6 v7 v8 v9 v10 v11 v12 v13 v14 v15 : Option V, σ = [some (.ref a), v1, some (.ref b), v3, some (.ref l), some (.str (lineT q)), v6, v7, v8, v9, v10, v11, v12, v13, v14, v15]) ∧ Same H B' ∧ Bk B' b ∧ Five K (Np b l B) B' l (.str (numS q.ds)) o c w m)
        ⟨⟨_, _, _, _, _, _, _, _, _, _, _, _, rfl⟩, s3, hb3, five⟩ (fun j2 σ B2 hj hP => ?_) (fun σ B2 hP => ?_)
      · obtain ⟨⟨v1, v3, v6, v7, v8, v9, v10, v11, v12, v13, v14, v15, rfl⟩, sB2, hbB, five⟩ := hP
        have ll : (lineT q).length ≤ 100 := by
          unfold lineT
          rw [SX.S_len]
          exact line_len ok
        refine ⟨_, rfl, _, rfl, b, lineT q, rfl, hbB, by omega, fun H4 u lu off4 hb4 => ?_⟩
        have s4 := bu_same sB2 hb0 off4
        have five := five.off Nb nlb hbB off4
        refine ⟨_, rfl, u, rfl, by omega, fun H5 v s5 alt => ?_⟩
        refine ⟨_, rfl, rfl, _, rfl, ?_⟩
        refine ifExp_k (G := fun x H1 => ∃ t y z, x = .ref t ∧ Same H5 H1 ∧ SqT K H1 t [.str y, .str z] ∧ Due u y z) (fun cc Q2 kk => ?_) (fun cc Q2 kk => ?_) (fun x H6 hx => ?_)
        · have cc := of_decide_eq_true cc
          rcases alt with ⟨_, lr, _, _, _, _, _, _, _, rfl, _⟩ | ⟨no, rfl⟩
          · cases cc
          · exact ⟨_, rfl, small_len (by show 2 ≤ 100000; decide), fun t ht => kk _ _ ⟨t, "bad", u, rfl, same_new ht, .inl (.inl upd_same), .inr ⟨no, rfl, rfl⟩⟩⟩
        · have cc := of_decide_eq_false cc
          rcases alt with ⟨q2, lr, n2, o2, c2, w2, m2, ok2, eu, rfl, five2, fit2⟩ | ⟨no, rfl⟩
          · exact ⟨_, rfl, lr, n2, o2, c2, w2, m2, _, q2, rfl, five2, fit2, ok2, fun H6 s6 => ⟨small_len (by show 2 ≤ 100000; decide), fun t ht => kk _ _ ⟨t, "card", (showD q2).shown, rfl, s6.trans (same_new ht), .inl (.inl upd_same), .inl ⟨q2, ok2, eu, rfl, rfl⟩⟩⟩⟩
          · exact absurd rfl cc
        obtain ⟨t, y, z, rfl, s6, hT, due⟩ := hx
        refine ⟨_, rfl, .str u, .str u, fun _ => False, rfl, .str _, .inl ⟨u, rfl, by omega, fun H7 t2 y2 z2 s7 hT2 due2 => ?_⟩⟩
        obtain ⟨rfl, rfl⟩ := due.uniq due2
        have s47 := (s5.trans s6).trans s7
        exact ⟨_, rfl, t2, t, y, z, rfl, rfl, hT2, sameT s7 hT, _, rfl, iteF ⟨⟨_, _, _, _, _, _, _, _, _, _, _, _, rfl⟩, s4.trans s47, hb4.k s47, five.ks s47⟩⟩
      · obtain ⟨⟨v1, v3, v6, v7, v8, v9, v10, v11, v12, v13, v14, v15, rfl⟩, sB2, hbB, five⟩ := hP
        obtain ⟨x1, x2, x3, x4, x5, hl, d1, d2, d3, d4, d5⟩ := id five
        refine ⟨_, rfl, l, _, false, rfl, SqL.of hl, fun W nW hW => ?_⟩
        have sW := same_new (o := .lst [x1, x2, x3, x4, x5]) hW
        have hWW : upd B2 W (.lst [x1, x2, x3, x4, x5]) W = some (.lst [x1, x2, x3, x4, x5]) := upd_same
        have nWb := hbB.off hW
        have nWl : W ≠ l := fun e => by rw [e, hl] at hW; cases hW
        have hW0 : H W = none := none_of sB2 hW
        have five : Five K (fun x => Np b l B x ∧ x ≠ W) (upd B2 W (.lst [x1, x2, x3, x4, x5])) l (.str (numS q.ds)) o c w m := five.kk (Kt.same sW) (fun a u n e => ⟨⟨n, fun z => by rw [z, hW] at e; cases e⟩, sW _ _ e⟩) fun u e => sW _ _ e
        have toW : ∀ {v d}, En K (Np b l B) B2 v d → En K (fun x => x ≠ sysModules ∧ x ≠ b ∧ x ≠ W) (upd B2 W (.lst [x1, x2, x3, x4, x5])) v d := fun h => En.kk (Kt.same sW) (fun a u n e => ⟨⟨n.1.1, n.1.2.1, fun z => by rw [z, hW] at e; cases e⟩, sW _ _ e⟩) _ _ h
        have mgs : ∀ d ∈ [PyData.str (numS q.ds), o, c, w, m], Mg 4 1000 d := fit_mgs fit ok
        have wens : Ens K (fun x => x ≠ sysModules ∧ x ≠ b ∧ x ≠ W) (upd B2 W (.lst [x1, x2, x3, x4, x5])) [x1, x2, x3, x4, x5] [.str (numS q.ds), o, c, w, m] := .cons (toW d1) (.cons (toW d2) (.cons (toW d3) (.cons (toW d4) (.cons (toW d5) .nil))))
        have sB2 := sB2.trans sW
        have hbB := hbB.k sW
        clear hl d1 d2 d3 d4 d5 toW sW
        generalize upd B2 W (.lst [x1, x2, x3, x4, x5]) = B3 at *
        refine ⟨_, rfl, b, 2, rfl, hbB, by decide, by decide, fun H8 d8 hd8 off8 hb8 => ?_⟩
        refine ⟨_, _, rfl, rfl, ?_⟩
        have N2b : ∀ x, (Np b l B x ∧ x ≠ W) → x ≠ b := fun x h => h.1.1.2.1
        have N3b : ∀ x, (x ≠ sysModules ∧ x ≠ b ∧ x ≠ W) → x ≠ b := fun x h => h.2.1
        obtain ⟨k8, e8, l8⟩ : ∃ k8 : Nat, (1 : Int) + (d8 : Nat) = (k8 : Nat) ∧ k8 ≤ 2 := ⟨1 + d8, by omega, by omega⟩
        refine ⟨(k8 : Int), congrArg (fun z => [V.int z]) e8, by omega, by omega, ?_⟩
        rw [Int.toNat_natCast]
        refine for_range (fun j σ B' => (∃ v1 v3 v6 v7 v8 v9 v11 v12 v13 v14 v15 : Option V, σ = [some (.ref a), v1, some (.ref b), v3, some (.ref l), some (.str (lineT q)), v6, v7, v8, v9, some (.ref W), v11, v12, v13, v14, v15]) ∧ Same H B' ∧ Bk B' b ∧ Five K (fun x => Np b l B x ∧ x ≠ W) B' l (.str (numS q.ds)) o c w m ∧
            ∃ ys ds, B' W = some (.lst ys) ∧ Ens K (fun x => x ≠ sysModules ∧ x ≠ b ∧ x ≠ W) B' ys ds ∧ ds.length = 5 ∧ ∀ d ∈ ds, Mg 4 1000 d)
          ⟨⟨_, _, _, _, _, _, _, _, _, _, _, rfl⟩, bu_same sB2 hb0 off8, hb8, five.off N2b nlb hbB off8, _, _, off8 _ _ nWb hWW, Ens.kk (hbB.kt off8) (fun a u n e => ⟨n, off8 _ _ (N3b a n) e⟩) _ _ wens, rfl, mgs⟩ (fun j σ B' hj hP => ?_) (fun σ B' hP => ?_)
        · obtain ⟨⟨v1, v3, v6, v7, v8, v9, v11, v12, v13, v14, v15, rfl⟩, sB', hb', five, ys, ds, hWB, en, l5, mg⟩ := hP
          refine ⟨_, rfl, b, 5, rfl, hb', by decide, by decide, fun H9 d9 hd9 off9 hb9 => ?_⟩
          refine ⟨_, rfl, _, rfl, b, d9, rfl, by omega, hb9, fun H10 v dd off10 hb10 ev mgv => ?_⟩
          have offA := off9.trans off10
          have hW10 := offA _ _ nWb hWB
          have ly := en.len
          have kt := hb'.kt (K := K) offA
          have en10 := Ens.kk (M := fun x => x ≠ sysModules ∧ x ≠ b ∧ x ≠ W) kt (fun a u n e => ⟨n, offA _ _ (N3b a n) e⟩) _ _ en
          have ev3 : En K (fun x => x ≠ sysModules ∧ x ≠ b ∧ x ≠ W) H10 v dd := En.kk Kt.refl (fun x u n e => ⟨⟨n.1.1, n.1.2, fun z => by
            have h1 := n.2
            rw [z, off9 _ _ nWb hWB] at h1
            cases h1⟩, e⟩) _ _ ev
          have five10 := five.off N2b nlb hb' offA
          refine ⟨_, rfl, _, rfl, W, ys, (d9 : Int), d9, rfl, rfl, hW10, ixN_at (by rw [ly, l5]; exact hd9), ?_⟩
          have ktW : Kt K H10 (upd H10 W (.lst (ys.set d9 v))) := Kt.lst hW10
          refine ⟨⟨_, _, _, _, _, _, _, _, _, _, _, rfl⟩, same_mut (bu_same sB' hb0 offA) hW0, hb10.off2 (p := W) (Off.set) (fun z => nWb z.symm), five10.kk ktW (fun x u n e => ⟨n, by rw [upd_ne n.2]; exact e⟩) (fun u e => by rw [upd_ne (fun z => nWl z.symm)]; exact e), ys.set d9 v, ds.set d9 dd, upd_same, Ens.kk ktW (fun x u n e => ⟨n, by rw [upd_ne n.2.2]; exact e⟩) _ _ (Ens.set ev3 d9 en10), by rw [List.length_set]; exact l5, fun d md => ?_⟩
          rcases List.mem_or_eq_of_mem_set md with md | rfl
          · exact mg d md
          · exact mgv
        obtain ⟨⟨v1, v3, v6, v7, v8, v9, v11, v12, v13, v14, v15, rfl⟩, sB', hb', five, ys, ds, hWB, en, l5, mg⟩ := hP
        obtain ⟨dn, dO, dc, dw, dm, rfl⟩ : ∃ a b c d e, ds = [a, b, c, d, e] := by
          match ds, l5 with
          | [a, b, c, d, e], _ => exact ⟨a, b, c, d, e, rfl⟩
        have F5 : Five K (fun x => x ≠ sysModules ∧ x ≠ b ∧ x ≠ W) B' W dn dO dc dw dm := by
          cases en with | cons e1 r1 =>
          cases r1 with | cons e2 r1 =>
          cases r1 with | cons e3 r1 =>
          cases r1 with | cons e4 r1 =>
          cases r1 with | cons e5 r1 =>
          cases r1
          exact ⟨_, _, _, _, _, hWB, e1, e2, e3, e4, e5⟩
        have tx : TxOk dn := (mg dn (by simp)).tx (by decide)
        have lo : (itm dO).length ≤ 1000 := (mg dO (by simp)).itm
        have mgW : Mg 5 (5 * (1000 + 1)) (.list [dn, dO, dc, dw, dm]) := mg_lst mg (Nat.le_refl 5)
        have enW : ∀ {X : Hp}, Same B' X → En K (fun x => x ≠ sysModules) X (.ref W) (.list [dn, dO, dc, dw, dm]) := fun s => .lst nW (s _ _ hWB) (Ens.kk (Kt.same s) (fun a u n e => ⟨n.1, s _ _ e⟩) _ _ en)
        refine ⟨_, rfl, W, dn, dO, dc, dw, dm, _, rfl, F5, tx, fun H11 s11 => ?_⟩
        refine ⟨_, rfl, _, .list [dn, dO, dc, dw, dm], fun x => x ≠ sysModules, rfl, fun _ h => h, enW s11, mgW.sh, Nat.le_trans mgW.dp (by decide), mgW.fits (by decide), ⟨_, _, rfl, ?_⟩⟩
        refine ⟨_, rfl, W, dn, dO, dc, dw, dm, _, rfl, F5.ks s11, tx, lo, fun H12 tt s12 alt => ?_⟩
        have s12 := s11.trans s12
        refine set_fls (fun Q2 kf => ?_) fun H13 s13 => ?_
        · rcases alt with ⟨q2, p2, f2, ok2, hT, hC⟩ | ⟨z, hz, hT⟩
          · refine ⟨_, rfl, rfl, _, rfl, iteN (by rw [f2.fault ok2]; rfl) ?_⟩
            refine ⟨_, rfl, _, .list [dn, dO, dc, dw, dm], fun x => x ≠ sysModules, rfl, fun _ h => h, enW s12, mgW.sh, Nat.le_trans mgW.dp (by decide), mgW.fits (by decide), _, rfl, rfl, _, rfl, ?_⟩
            rw [show (!decide (V.str (PyData.list [dn, dO, dc, dw, dm]).shown = V.str (PyData.list [dn, dO, dc, dw, dm]).shown)) = false by simp]
            exact kf _ (Same.refl _)
          · refine ⟨_, rfl, rfl, _, rfl, iteY (by rw [hz]; rfl) ?_⟩
            refine ⟨_, rfl, _, rfl, small_len (by show 2 ≤ 100000; decide), fun t2 ht2 => ?_⟩
            have st := same_new (o := .tup [.str "bad", fV (faultW dn dO dc dw dm)]) ht2
            have hT2 : SqT K (upd H12 t2 (.tup [.str "bad", fV (faultW dn dO dc dw dm)])) t2 [.str "bad", .str z] := .inl (.inl (by rw [upd_same, hz]; rfl))
            refine ⟨tt, t2, "bad", z, rfl, rfl, sameT st hT, hT2, _, rfl, iteF ?_⟩
            refine ⟨_, rfl, _, .list [dn, dO, dc, dw, dm], fun x => x ≠ sysModules, rfl, fun _ h => h, enW (s12.trans st), mgW.sh, Nat.le_trans mgW.dp (by decide), mgW.fits (by decide), _, rfl, rfl, _, rfl, ?_⟩
            rw [show (!decide (V.str (PyData.list [dn, dO, dc, dw, dm]).shown = V.str (PyData.list [dn, dO, dc, dw, dm]).shown)) = false by simp]
            exact kf _ st
        have s23 := s13
        have s13 := s12.trans s13
        refine if_fls (fun Q2 kf => ?_) fun H14 s14 => ?_
        · rcases alt with ⟨q2, p2, f2, ok2, hT, hC⟩ | ⟨z, hz, hT⟩
          · have hT := sameT s23 hT
            refine ⟨_, rfl, rfl, _, rfl, iteY (by rw [f2.fault ok2]; rfl) ?_⟩
            refine ⟨_, rfl, tt, _, 0, _, rfl, rfl, hT, atI_nat (j := 0) rfl, rfl, _, rfl, iteN (by simp) ?_⟩
            refine ⟨_, rfl, tt, _, 1, _, rfl, rfl, hT, atI_nat (j := 1) rfl, p2, q2, rfl, hC.ks s23, ok2, fun X sX => ⟨_, rfl, W, dn, dO, dc, dw, dm, _, q2, rfl, F5.ks (s13.trans sX), f2, ok2, fun Y sY => ⟨rfl, _, rfl, ?_⟩⟩⟩
            rw [show (!decide (V.str (showD q2).shown = V.str (showD q2).shown)) = false by simp]
            exact kf _ (sX.trans sY)
          · exact ⟨_, rfl, rfl, _, rfl, iteN (by rw [hz]; rfl) (kf _ (Same.refl _))⟩
        have s14 := s13.trans s14
        have F5 := F5.ks s14
        have five := five.ks s14
        have hb' := hb'.k s14
        have sB' := sB'.trans s14
        clear enW hWB en alt s23 s13 s12 s11
        obtain ⟨y1, y2, y3, y4, y5, hWB, f1, f2, f3, f4, f5⟩ := F5
        obtain ⟨x1, x2, x3, x4, x5, hl, d1, d2, d3, d4, d5⟩ := id five
        obtain ⟨pc, xc, t3, rfl, hC, dC, _⟩ := seq_en d3 fit.cs
        have lc : xc.length = 3 := by rw [dC.len, fit.hc, nD_len, ok.c3]
        refine ⟨_, rfl, W, _, 1, _, rfl, rfl, SqL.of hWB, atI_nat (j := 1) rfl, _, rfl, W, _, 2, _, rfl, rfl, SqL.of hWB, atI_nat (j := 2) rfl, _, rfl, l, _, 1, _, rfl, rfl, SqL.of hl, atI_nat (j := 1) rfl, ?_⟩
        refine ⟨_, rfl, l, _, 2, _, rfl, rfl, SqL.of hl, atI_nat (j := 2) rfl, pc, xc, t3, rfl, hC, fun L1 nL1 hL1 => ?_⟩
        have u1 := same_new (o := .lst xc) hL1
        refine ⟨small_len (by show 1 ≤ 100000; decide), fun L2 nL2 hL2 => ?_⟩
        have u2 := same_new (o := .lst [.int 9]) hL2
        refine ⟨L1, L2, xc, [.int 9], rfl, rfl, u2 _ _ upd_same, upd_same, small_len (by rw [lc]; decide), fun L3 hL3 => ?_⟩
        have u3 := same_new (o := .lst (xc ++ [.int 9])) hL3
        have q3 : upd (upd (upd H14 L1 (.lst xc)) L2 (.lst [.int 9])) L3 (.lst (xc ++ [.int 9])) L3 = some (.lst (xc ++ [.int 9])) := upd_same
        have u13 := (u1.trans u2).trans u3
        generalize upd (upd (upd H14 L1 (.lst xc)) L2 (.lst [.int 9])) L3 (.lst (xc ++ [.int 9])) = J1 at *
        refine ⟨small_len (by show 0 ≤ 100000; decide), fun L4 nL4 hL4 => ⟨small_len (by show 1 ≤ 100000; decide), fun L5 nL5 hL5 => ?_⟩⟩
        have u4 := same_new (o := .lst []) hL4
        have q4 : upd J1 L4 (.lst []) L4 = some (.lst []) := upd_same
        have u5 := same_new (o := .lst [.int 8]) hL5
        refine ⟨L5, 6, [.int 8], rfl, rfl, upd_same, by decide, by decide, small_len (by decide), fun L6 hL6 => ?_⟩
        have u6 := same_new (o := .lst (List.replicate (6 : Int).toNat [V.int 8]).flatten) hL6
        have q6 : upd (upd (upd J1 L4 (.lst [])) L5 (.lst [.int 8])) L6 (.lst (List.replicate (6 : Int).toNat [V.int 8]).flatten) L6 = some (.lst (nV [8, 8, 8, 8, 8, 8])) := upd_same
        have q4 := u6 _ _ (u5 _ _ q4)
        have u46 := (u4.trans u5).trans u6
        generalize upd (upd (upd J1 L4 (.lst [])) L5 (.lst [.int 8])) L6 (.lst (List.replicate (6 : Int).toNat [V.int 8]).flatten) = J2 at *
        refine ⟨small_len (by show 1 ≤ 100000; decide), fun L7 hL7 => ⟨L7, 7, [.int 0], rfl, rfl, .inl (.inl upd_same), by simp, by decide, by decide, by decide, fun w8 J3 u8 q8 => ?_⟩⟩
        have u8 := (same_new (o := .tup [.int 0]) hL7).trans u8
        have q8 : SqT K J3 w8 (nV [0, 0, 0, 0, 0, 0, 0]) := q8
        refine ⟨small_len (by show 1 ≤ 100000; decide), fun L9 nL9 hL9 => ⟨small_len (by show 9 ≤ 100000; decide), fun S nS hS => ?_⟩⟩
        have u9 := same_new (o := .lst [.bl true]) hL9
        have q9 : upd J3 L9 (.lst [.bl true]) L9 = some (.lst [.bl true]) := upd_same
        generalize upd J3 L9 (.lst [.bl true]) = J4 at *
        have uA := ((u13.trans u46).trans u8).trans u9
        have all : Ens K (fun _ => True) J4 [y2, y3, x2, .ref L3, .ref L4, .ref L6, .ref w8, .ref L9, .str "0"] [dO, dc, o, .list (itm c ++ [.int 9]), .list [], .list (nD [8, 8, 8, 8, 8, 8]), .tuple (nD [0, 0, 0, 0, 0, 0, 0]), .list [.bool true], .str "0"] := by
          have tr : ∀ {N : Addr → Prop} {v : V} {d : PyData}, En K N H14 v d → En K (fun _ => True) J4 v d := fun h => En.kk (Kt.same uA) (fun a u n e => ⟨trivial, uA _ _ e⟩) _ _ h
          have trs : Ens K (fun _ => True) J4 xc (itm c) := Ens.kk (Kt.same uA) (fun a u n e => ⟨trivial, uA _ _ e⟩) _ _ dC
          have v3 := (((u46.trans u8).trans u9)) _ _ q3
          have v4 := ((u8.trans u9)) _ _ q4
          have v6 := ((u8.trans u9)) _ _ q6
          exact .cons (tr f2) (.cons (tr f3) (.cons (tr d2) (.cons (.lst trivial v3 (trs.app (.cons (.int 9) .nil))) (.cons (.lst trivial v4 .nil) (.cons (.lst trivial v6 (nV_ens _)) (.cons (.tup (sameT u9 q8) (nV_ens _)) (.cons (.lst trivial q9 (.cons (.bl true) .nil)) (.cons (.str "0") .nil))))))))
        have uS := same_new (o := .lst [y2, y3, x2, .ref L3, .ref L4, .ref L6, .ref w8, .ref L9, .str "0"]) hS
        have qS : SqL K (upd J4 S (.lst [y2, y3, x2, .ref L3, .ref L4, .ref L6, .ref w8, .ref L9, .str "0"])) S [y2, y3, x2, .ref L3, .ref L4, .ref L6, .ref w8, .ref L9, .str "0"] := SqL.of upd_same
        have all := all.ks uS
        have uB := uA.trans uS
        generalize upd J4 S (.lst [y2, y3, x2, .ref L3, .ref L4, .ref L6, .ref w8, .ref L9, .str "0"]) = J5 at *
        refine ⟨S, _, false, rfl, qS, fun J GG w hG => ?_⟩
        have sJ := sB'.trans uB
        refine for_it w (fun j σ B' => (∃ v1 v3 v6 v7 v8 v9 v11 v12 v13 v14 v15 : Option V, σ = [some (.ref a), v1, some (.ref b), v3, some (.ref l), some (.str (lineT q)), v6, v7, v8, v9, some (.ref W), v11, v12, v13, v14, v15]) ∧ Same J5 B')
          ⟨⟨_, _, _, _, _, _, _, _, _, _, _, rfl⟩, Same.refl _⟩ (fun j σ B' _ h => hG _ (Hf.keepL h.2 qS)) (fun j x σ Ba Bb hj hP hY => ?_) (fun σ Ba hP => ?_)
        · obtain ⟨⟨v1, v3, v6, v7, v8, v9, v11, v12, v13, v14, v15, rfl⟩, sa⟩ := hP
          obtain ⟨rfl, hx⟩ := hY
          obtain ⟨d, _, ed⟩ := all.at hx
          have mgb : ∀ b0, Mg 4 1000 (.bool b0) := fun b0 => by cases b0 <;> exact mgB_mg (by decide +kernel)
          refine ⟨_, rfl, x, d, _, rfl, ed.ks sa, fun X sX => ⟨_, .bool (stationsB d), fun _ => False, rfl, fun _ h => h.elim, .bl _, (mgb _).sh, Nat.le_trans (mgb _).dp (by decide), (mgb _).fits (by decide), ?_⟩⟩
          refine ⟨_, rfl, x, d, _, 1, 6, 8, rfl, ed.ks (sa.trans sX), by decide, fun Y sY => ⟨_, .bool (stationsB d), fun _ => False, rfl, fun _ h => h.elim, .bl _, (mgb _).sh, Nat.le_trans (mgb _).dp (by decide), (mgb _).fits (by decide), rfl, _, rfl, ?_⟩⟩
          rw [show (!decide (V.str (PyData.bool (stationsB d)).shown = V.str (PyData.bool (stationsB d)).shown)) = false by simp]
          exact iteF ⟨⟨_, _, _, _, _, _, _, _, _, _, _, rfl⟩, sa.trans (sX.trans sY)⟩
        obtain ⟨⟨v1, v3, v6, v7, v8, v9, v11, v12, v13, v14, v15, rfl⟩, sa⟩ := hP
        have uC := uB.trans sa
        have hb' := hb'.k uC
        have sC := sB'.trans uC
        refine ⟨_, rfl, l, _, _, _, _, _, _, q, rfl, five.ks uC, fun h => h.1.2 rfl, fit, ok, fun HK out kt => ⟨true, rfl, iteF ?_⟩⟩
        refine ⟨⟨_, _, _, _, _, _, _, _, _, _, _, _, _, _, rfl⟩, fun x u e => out x u (fun h => ?_) (sC x u e), ?_⟩
        · have h1 := h.1.1.2.2
          rw [sB x u e] at h1
          cases h1
        · obtain ⟨x, y, e, r⟩ := hb'
          exact ⟨x, y, out b _ (fun h => h.1.1.2.1 rfl) e, r⟩
    · obtain ⟨⟨v1, v2, v3, v4, v5, v6, v7, v8, v9, v10, v11, v12, v13, v14, v15, rfl⟩, sB⟩ := hP
      refine ⟨small_len (by show 0 ≤ 100000; decide), fun p1 np1 hp1 => ⟨small_len (by show 1 ≤ 100000; decide), fun p2 np2 hp2 => ⟨small_len (by show 0 ≤ 100000; decide), fun p3 hp3 => fun p4 np4 hp4 => ⟨small_len (by show 7 ≤ 100000; decide), fun S nS hS => ?_⟩⟩⟩⟩
      have u1 := same_new (o := .lst []) hp1
      have u2 := same_new (o := .lst [.str "24: -"]) hp2
      have u3 := same_new (o := .tup []) hp3
      have u4 := same_new (o := .dK []) hp4
      have uS := same_new (o := .lst [.non, .bl true, .int 24, .ref p1, .ref p2, .ref p3, .ref p4]) hS
      have all : Ens K (fun x => x ≠ sysModules) (upd (upd (upd (upd (upd B p1 (.lst [])) p2 (.lst [.str "24: -"])) p3 (.tup [])) p4 (.dK [])) S (.lst [.non, .bl true, .int 24, .ref p1, .ref p2, .ref p3, .ref p4])) [.non, .bl true, .int 24, .ref p1, .ref p2, .ref p3, .ref p4] [.none, .bool true, .int 24, .list [], .list [.str "24: -"], .tuple [], .dict []] :=
        .cons .non (.cons (.bl true) (.cons (.int 24) (.cons (.lst np1 (uS _ _ (u4 _ _ (u3 _ _ (u2 _ _ upd_same)))) .nil) (.cons (.lst np2 (uS _ _ (u4 _ _ (u3 _ _ upd_same))) (.cons (.str _) .nil)) (.cons (.tup (.inl (.inl (uS _ _ (u4 _ _ upd_same)))) .nil) (.cons (.emp np4 (uS _ _ upd_same)) .nil))))))
      have qS : SqL K (upd (upd (upd (upd (upd B p1 (.lst [])) p2 (.lst [.str "24: -"])) p3 (.tup [])) p4 (.dK [])) S (.lst [.non, .bl true, .int 24, .ref p1, .ref p2, .ref p3, .ref p4])) S [.non, .bl true, .int 24, .ref p1, .ref p2, .ref p3, .ref p4] := SqL.of upd_same
      generalize upd (upd (upd (upd (upd B p1 (.lst [])) p2 (.lst [.str "24: -"])) p3 (.tup [])) p4 (.dK [])) S (.lst [.non, .bl true, .int 24, .ref p1, .ref p2, .ref p3, .ref p4]) = J5 at *
      refine ⟨S, _, false, rfl, qS, fun J GG w hG => ?_⟩
      refine for_it w (fun j σ B' => (∃ v14 v15 : Option V, σ = [some (.ref a), v1, v2, v3, v4, v5, v6, v7, v8, v9, v10, v11, v12, v13, v14, v15]) ∧ Same J5 B')
        ⟨⟨_, _, rfl⟩, Same.refl _⟩ (fun j σ B' _ h => hG _ (Hf.keepL h.2 qS)) (fun j x σ Ba Bb hj hP hY => ?_) (fun σ Ba hP => ?_)
      · obtain ⟨⟨v14, v15, rfl⟩, sa⟩ := hP
        obtain ⟨rfl, hx⟩ := hY
        obtain ⟨d, hd, ed⟩ := all.at hx
        have mgs : ([PyData.none, .bool true, .int 24, .list [], .list [.str "24: -"], .tuple [], .dict []].all fun d => mgB d && !stB d) = true := by decide +kernel
        obtain ⟨m1, m2⟩ := Bool.and_eq_true_iff.mp (List.all_eq_true.mp mgs d (List.mem_of_getElem? hd))
        have mg := mgB_mg m1
        have nt : ∀ t, d ≠ .str t := fun t e => by rw [e] at m2; cases m2
        have ed := ed.ks sa
        refine ⟨_, rfl, x, d, _, rfl, ed, .inr ⟨nt, fun X u sX hT => ?_⟩⟩
        have ed := ed.ks sX
        refine ⟨_, rfl, u, _, 0, _, rfl, rfl, hT, atI_nat (j := 0) rfl, rfl, _, rfl, iteN (by simp) ?_⟩
        refine ⟨_, rfl, u, _, 1, _, rfl, rfl, hT, atI_nat (j := 1) rfl, x, d, _, rfl, fun _ h => h, ed, mg.sh, Nat.le_trans mg.dp (by decide), mg.fits (by decide), ?_⟩
        refine ⟨_, rfl, x, d, _, rfl, fun _ h => h, ed, mg.sh, Nat.le_trans mg.dp (by decide), mg.fits (by decide), rfl, _, rfl, iteN (by simp) ⟨⟨_, _, rfl⟩, sa.trans sX⟩⟩
      · exact k _
end
end K54

namespace K54
open PySem L2 Wm TL Dv PySem.W
theorem all_mk {l : PySem.W.OpenLaw} {w : World} {K : PySem.W.Frag} {h : Heap} {mg : Str → Option Value} {fa : Addr} (X : K.In h) (G : h.Ns mainGlobals mg) (hfa : mg "law" = some (.ref fa))
    {xC : Addr}
    (axC : PySem.W.nsIn K mainGlobals "Card" = some (some (.ref xC)))
    {x_is_whole : Addr} {od_is_whole an_is_whole : Option Addr} {sl_is_whole : Array (Option Value)} {oc_is_whole dc_is_whole pm_is_whole cd_is_whole ct_is_whole : Value}
    {kV_is_whole : Value}
    (a_is_whole : PySem.W.nsIn K mainGlobals "is_whole" = some (some (.ref x_is_whole)))
    (l_is_whole : K.lookup x_is_whole = some ⟨oc_is_whole, od_is_whole, .func (PySem.W.fnOf "is_whole" "is_whole" (defArgs s_is_whole) (defBody s_is_whole) (defScope s_is_whole) .none kV_is_whole dc_is_whole pm_is_whole an_is_whole cd_is_whole ct_is_whole), sl_is_whole⟩)
    (c_is_whole : PySem.W.codeIn K cd_is_whole "is_whole" = true)
    (k_is_whole : PySem.W.keepIn K (.ref x_is_whole) = true)
    {x_is_whole_within : Addr} {od_is_whole_within an_is_whole_within : Option Addr} {sl_is_whole_within : Array (Option Value)} {oc_is_whole_within dc_is_whole_within pm_is_whole_within cd_is_whole_within ct_is_whole_within : Value}
    {kV_is_whole_within : Value}
    (a_is_whole_within : PySem.W.nsIn K mainGlobals "is_whole_within" = some (some (.ref x_is_whole_within)))
    (l_is_whole_within : K.lookup x_is_whole_within = some ⟨oc_is_whole_within, od_is_whole_within, .func (PySem.W.fnOf "is_whole_within" "is_whole_within" (defArgs s_is_whole_within) (defBody s_is_whole_within) (defScope s_is_whole_within) .none kV_is_whole_within dc_is_whole_within pm_is_whole_within an_is_whole_within cd_is_whole_within ct_is_whole_within), sl_is_whole_within⟩)
    (c_is_whole_within : PySem.W.codeIn K cd_is_whole_within "is_whole_within" = true)
    (k_is_whole_within : PySem.W.keepIn K (.ref x_is_whole_within) = true)
    {x_is_sequence : Addr} {od_is_sequence an_is_sequence : Option Addr} {sl_is_sequence : Array (Option Value)} {oc_is_sequence dc_is_sequence pm_is_sequence cd_is_sequence ct_is_sequence : Value}
    {kV_is_sequence : Value}
    (a_is_sequence : PySem.W.nsIn K mainGlobals "is_sequence" = some (some (.ref x_is_sequence)))
    (l_is_sequence : K.lookup x_is_sequence = some ⟨oc_is_sequence, od_is_sequence, .func (PySem.W.fnOf "is_sequence" "is_sequence" (defArgs s_is_sequence) (defBody s_is_sequence) (defScope s_is_sequence) .none kV_is_sequence dc_is_sequence pm_is_sequence an_is_sequence cd_is_sequence ct_is_sequence), sl_is_sequence⟩)
    (c_is_sequence : PySem.W.codeIn K cd_is_sequence "is_sequence" = true)
    (k_is_sequence : PySem.W.keepIn K (.ref x_is_sequence) = true)
    {x_is_digit : Addr} {od_is_digit an_is_digit : Option Addr} {sl_is_digit : Array (Option Value)} {oc_is_digit dc_is_digit pm_is_digit cd_is_digit ct_is_digit : Value}
    {kV_is_digit : Value}
    (a_is_digit : PySem.W.nsIn K mainGlobals "is_digit" = some (some (.ref x_is_digit)))
    (l_is_digit : K.lookup x_is_digit = some ⟨oc_is_digit, od_is_digit, .func (PySem.W.fnOf "is_digit" "is_digit" (defArgs s_is_digit) (defBody s_is_digit) (defScope s_is_digit) .none kV_is_digit dc_is_digit pm_is_digit an_is_digit cd_is_digit ct_is_digit), sl_is_digit⟩)
    (c_is_digit : PySem.W.codeIn K cd_is_digit "is_digit" = true)
    (k_is_digit : PySem.W.keepIn K (.ref x_is_digit) = true)
    {x_is_number : Addr} {od_is_number an_is_number : Option Addr} {sl_is_number : Array (Option Value)} {oc_is_number dc_is_number pm_is_number cd_is_number ct_is_number : Value}
    {kV_is_number : Value}
    (a_is_number : PySem.W.nsIn K mainGlobals "is_number" = some (some (.ref x_is_number)))
    (l_is_number : K.lookup x_is_number = some ⟨oc_is_number, od_is_number, .func (PySem.W.fnOf "is_number" "is_number" (defArgs s_is_number) (defBody s_is_number) (defScope s_is_number) .none kV_is_number dc_is_number pm_is_number an_is_number cd_is_number ct_is_number), sl_is_number⟩)
    (c_is_number : PySem.W.codeIn K cd_is_number "is_number" = true)
    (k_is_number : PySem.W.keepIn K (.ref x_is_number) = true)
    {x_is_station : Addr} {od_is_station an_is_station : Option Addr} {sl_is_station : Array (Option Value)} {oc_is_station dc_is_station pm_is_station cd_is_station ct_is_station : Value}
    {kV_is_station : Value}
    (a_is_station : PySem.W.nsIn K mainGlobals "is_station" = some (some (.ref x_is_station)))
    (l_is_station : K.lookup x_is_station = some ⟨oc_is_station, od_is_station, .func (PySem.W.fnOf "is_station" "is_station" (defArgs s_is_station) (defBody s_is_station) (defScope s_is_station) .none kV_is_station dc_is_station pm_is_station an_is_station cd_is_station ct_is_station), sl_is_station⟩)
    (c_is_station : PySem.W.codeIn K cd_is_station "is_station" = true)
    (k_is_station : PySem.W.keepIn K (.ref x_is_station) = true)
    {x_is_crew : Addr} {od_is_crew an_is_crew : Option Addr} {sl_is_crew : Array (Option Value)} {oc_is_crew dc_is_crew pm_is_crew cd_is_crew ct_is_crew : Value}
    {kV_is_crew : Value}
    (a_is_crew : PySem.W.nsIn K mainGlobals "is_crew" = some (some (.ref x_is_crew)))
    (l_is_crew : K.lookup x_is_crew = some ⟨oc_is_crew, od_is_crew, .func (PySem.W.fnOf "is_crew" "is_crew" (defArgs s_is_crew) (defBody s_is_crew) (defScope s_is_crew) .none kV_is_crew dc_is_crew pm_is_crew an_is_crew cd_is_crew ct_is_crew), sl_is_crew⟩)
    (c_is_crew : PySem.W.codeIn K cd_is_crew "is_crew" = true)
    (k_is_crew : PySem.W.keepIn K (.ref x_is_crew) = true)
    {x_is_stations : Addr} {od_is_stations an_is_stations : Option Addr} {sl_is_stations : Array (Option Value)} {oc_is_stations dc_is_stations pm_is_stations cd_is_stations ct_is_stations : Value}
    {kV_is_stations : Value}
    (a_is_stations : PySem.W.nsIn K mainGlobals "is_stations" = some (some (.ref x_is_stations)))
    (l_is_stations : K.lookup x_is_stations = some ⟨oc_is_stations, od_is_stations, .func (PySem.W.fnOf "is_stations" "is_stations" (defArgs s_is_stations) (defBody s_is_stations) (defScope s_is_stations) .none kV_is_stations dc_is_stations pm_is_stations an_is_stations cd_is_stations ct_is_stations), sl_is_stations⟩)
    (c_is_stations : PySem.W.codeIn K cd_is_stations "is_stations" = true)
    (k_is_stations : PySem.W.keepIn K (.ref x_is_stations) = true)
    {x_is_order : Addr} {od_is_order an_is_order : Option Addr} {sl_is_order : Array (Option Value)} {oc_is_order dc_is_order pm_is_order cd_is_order ct_is_order : Value}
    {kV_is_order : Value}
    (a_is_order : PySem.W.nsIn K mainGlobals "is_order" = some (some (.ref x_is_order)))
    (l_is_order : K.lookup x_is_order = some ⟨oc_is_order, od_is_order, .func (PySem.W.fnOf "is_order" "is_order" (defArgs s_is_order) (defBody s_is_order) (defScope s_is_order) .none kV_is_order dc_is_order pm_is_order an_is_order cd_is_order ct_is_order), sl_is_order⟩)
    (c_is_order : PySem.W.codeIn K cd_is_order "is_order" = true)
    (k_is_order : PySem.W.keepIn K (.ref x_is_order) = true)
    {x_are_counts : Addr} {od_are_counts an_are_counts : Option Addr} {sl_are_counts : Array (Option Value)} {oc_are_counts dc_are_counts pm_are_counts cd_are_counts ct_are_counts : Value}
    {kV_are_counts : Value}
    (a_are_counts : PySem.W.nsIn K mainGlobals "are_counts" = some (some (.ref x_are_counts)))
    (l_are_counts : K.lookup x_are_counts = some ⟨oc_are_counts, od_are_counts, .func (PySem.W.fnOf "are_counts" "are_counts" (defArgs s_are_counts) (defBody s_are_counts) (defScope s_are_counts) .none kV_are_counts dc_are_counts pm_are_counts an_are_counts cd_are_counts ct_are_counts), sl_are_counts⟩)
    (c_are_counts : PySem.W.codeIn K cd_are_counts "are_counts" = true)
    (k_are_counts : PySem.W.keepIn K (.ref x_are_counts) = true)
    {x_is_move : Addr} {od_is_move an_is_move : Option Addr} {sl_is_move : Array (Option Value)} {oc_is_move dc_is_move pm_is_move cd_is_move ct_is_move : Value}
    {kV_is_move : Value}
    (a_is_move : PySem.W.nsIn K mainGlobals "is_move" = some (some (.ref x_is_move)))
    (l_is_move : K.lookup x_is_move = some ⟨oc_is_move, od_is_move, .func (PySem.W.fnOf "is_move" "is_move" (defArgs s_is_move) (defBody s_is_move) (defScope s_is_move) .none kV_is_move dc_is_move pm_is_move an_is_move cd_is_move ct_is_move), sl_is_move⟩)
    (c_is_move : PySem.W.codeIn K cd_is_move "is_move" = true)
    (k_is_move : PySem.W.keepIn K (.ref x_is_move) = true)
    {x_are_moves : Addr} {od_are_moves an_are_moves : Option Addr} {sl_are_moves : Array (Option Value)} {oc_are_moves dc_are_moves pm_are_moves cd_are_moves ct_are_moves : Value}
    {kV_are_moves : Value}
    (a_are_moves : PySem.W.nsIn K mainGlobals "are_moves" = some (some (.ref x_are_moves)))
    (l_are_moves : K.lookup x_are_moves = some ⟨oc_are_moves, od_are_moves, .func (PySem.W.fnOf "are_moves" "are_moves" (defArgs s_are_moves) (defBody s_are_moves) (defScope s_are_moves) .none kV_are_moves dc_are_moves pm_are_moves an_are_moves cd_are_moves ct_are_moves), sl_are_moves⟩)
    (c_are_moves : PySem.W.codeIn K cd_are_moves "are_moves" = true)
    (k_are_moves : PySem.W.keepIn K (.ref x_are_moves) = true)
    {x_cinit : Addr} {od_cinit an_cinit : Option Addr} {sl_cinit : Array (Option Value)} {oc_cinit dc_cinit pm_cinit cd_cinit ct_cinit : Value}
    {xF xO xM : Addr} {oO oM : Option Addr} {nO nM : Nat} {slO slM : Array (Option Value)} {u1 u2 u3 : Tok}
    (a_cinit : PySem.W.findIn K (.ref xC) "__init__" = some (some (.ref x_cinit)))
    (i_cinit : PySem.W.isFn K (.ref x_cinit) = true)
    (l_cinit : K.lookup x_cinit = some ⟨oc_cinit, od_cinit, .func (PySem.W.fnOf "__init__" "Card.__init__" (defArgs s_cinit) (defBody s_cinit) (defScope s_cinit) .none (.ref xF) dc_cinit pm_cinit an_cinit cd_cinit ct_cinit), sl_cinit⟩)
    (c_cinit : PySem.W.codeIn K cd_cinit "Card.__init__" = true)
    (k_cinit : PySem.W.keepIn K (.ref x_cinit) = true)
    (e_owed : PySem.W.nsIn K xF "owed" = some (some (.ref xO)))
    (e_moves : PySem.W.nsIn K xF "moves" = some (some (.ref xM)))
    (w_O : K.lookup xO = some ⟨.type "tuple", oO, .seq #[.int 0 u1, .int 0 u2, .int 0 u3] nO, slO⟩)
    (w_M : K.lookup xM = some ⟨.type "tuple", oM, .seq #[] nM, slM⟩)
    {x_joined : Addr} {od_joined an_joined : Option Addr} {sl_joined : Array (Option Value)} {oc_joined dc_joined pm_joined cd_joined ct_joined : Value}
    {kV_joined : Value}
    (a_joined : PySem.W.nsIn K mainGlobals "joined" = some (some (.ref x_joined)))
    (l_joined : K.lookup x_joined = some ⟨oc_joined, od_joined, .func (PySem.W.fnOf "joined" "joined" (defArgs s_joined) (defBody s_joined) (defScope s_joined) .none kV_joined dc_joined pm_joined an_joined cd_joined ct_joined), sl_joined⟩)
    (c_joined : PySem.W.codeIn K cd_joined "joined" = true)
    (k_joined : PySem.W.keepIn K (.ref x_joined) = true)
    {x_card_text : Addr} {od_card_text an_card_text : Option Addr} {sl_card_text : Array (Option Value)} {oc_card_text dc_card_text pm_card_text cd_card_text ct_card_text : Value}
    {kV_card_text : Value}
    (a_card_text : PySem.W.nsIn K mainGlobals "card_text" = some (some (.ref x_card_text)))
    (l_card_text : K.lookup x_card_text = some ⟨oc_card_text, od_card_text, .func (PySem.W.fnOf "card_text" "card_text" (defArgs s_card_text) (defBody s_card_text) (defScope s_card_text) .none kV_card_text dc_card_text pm_card_text an_card_text cd_card_text ct_card_text), sl_card_text⟩)
    (c_card_text : PySem.W.codeIn K cd_card_text "card_text" = true)
    (k_card_text : PySem.W.keepIn K (.ref x_card_text) = true)
    {x_digits_in : Addr} {od_digits_in an_digits_in : Option Addr} {sl_digits_in : Array (Option Value)} {oc_digits_in dc_digits_in pm_digits_in cd_digits_in ct_digits_in : Value}
    {kV_digits_in : Value}
    (a_digits_in : PySem.W.nsIn K mainGlobals "digits_in" = some (some (.ref x_digits_in)))
    (l_digits_in : K.lookup x_digits_in = some ⟨oc_digits_in, od_digits_in, .func (PySem.W.fnOf "digits_in" "digits_in" (defArgs s_digits_in) (defBody s_digits_in) (defScope s_digits_in) .none kV_digits_in dc_digits_in pm_digits_in an_digits_in cd_digits_in ct_digits_in), sl_digits_in⟩)
    (c_digits_in : PySem.W.codeIn K cd_digits_in "digits_in" = true)
    (k_digits_in : PySem.W.keepIn K (.ref x_digits_in) = true)
    {x_read_card : Addr} {od_read_card an_read_card : Option Addr} {sl_read_card : Array (Option Value)} {oc_read_card dc_read_card pm_read_card cd_read_card ct_read_card : Value}
    {kV_read_card : Value}
    (a_read_card : PySem.W.nsIn K mainGlobals "read_card" = some (some (.ref x_read_card)))
    (l_read_card : K.lookup x_read_card = some ⟨oc_read_card, od_read_card, .func (PySem.W.fnOf "read_card" "read_card" (defArgs s_read_card) (defBody s_read_card) (defScope s_read_card) .none kV_read_card dc_read_card pm_read_card an_read_card cd_read_card ct_read_card), sl_read_card⟩)
    (c_read_card : PySem.W.codeIn K cd_read_card "read_card" = true)
    (k_read_card : PySem.W.keepIn K (.ref x_read_card) = true)
    {x_bag : Addr} {od_bag an_bag : Option Addr} {sl_bag : Array (Option Value)} {oc_bag dc_bag pm_bag cd_bag ct_bag : Value}
    {kV_bag : Value}
    (a_bag : PySem.W.nsIn K mainGlobals "_law_bag" = some (some (.ref x_bag)))
    (l_bag : K.lookup x_bag = some ⟨oc_bag, od_bag, .func (PySem.W.fnOf "_law_bag" "_law_bag" (defArgs s_bag) (defBody s_bag) (defScope s_bag) .none kV_bag dc_bag pm_bag an_bag cd_bag ct_bag), sl_bag⟩)
    (c_bag : PySem.W.codeIn K cd_bag "_law_bag" = true)
    (k_bag : PySem.W.keepIn K (.ref x_bag) = true)
    {x_take : Addr} {od_take an_take : Option Addr} {sl_take : Array (Option Value)} {oc_take dc_take pm_take cd_take ct_take : Value}
    {kV_take : Value}
    (a_take : PySem.W.nsIn K mainGlobals "_law_take" = some (some (.ref x_take)))
    (l_take : K.lookup x_take = some ⟨oc_take, od_take, .func (PySem.W.fnOf "_law_take" "_law_take" (defArgs s_take) (defBody s_take) (defScope s_take) .none kV_take dc_take pm_take an_take cd_take ct_take), sl_take⟩)
    (c_take : PySem.W.codeIn K cd_take "_law_take" = true)
    (k_take : PySem.W.keepIn K (.ref x_take) = true)
    {x_of : Addr} {od_of an_of : Option Addr} {sl_of : Array (Option Value)} {oc_of dc_of pm_of cd_of ct_of : Value}
    {kV_of : Value}
    (a_of : PySem.W.nsIn K mainGlobals "_law_of" = some (some (.ref x_of)))
    (l_of : K.lookup x_of = some ⟨oc_of, od_of, .func (PySem.W.fnOf "_law_of" "_law_of" (defArgs s_of) (defBody s_of) (defScope s_of) .none kV_of dc_of pm_of an_of cd_of ct_of), sl_of⟩)
    (c_of : PySem.W.codeIn K cd_of "_law_of" = true)
    (k_of : PySem.W.keepIn K (.ref x_of) = true)
    {x_number : Addr} {od_number an_number : Option Addr} {sl_number : Array (Option Value)} {oc_number dc_number pm_number cd_number ct_number : Value}
    {kV_number : Value}
    (a_number : PySem.W.nsIn K mainGlobals "_law_number" = some (some (.ref x_number)))
    (l_number : K.lookup x_number = some ⟨oc_number, od_number, .func (PySem.W.fnOf "_law_number" "_law_number" (defArgs s_number) (defBody s_number) (defScope s_number) .none kV_number dc_number pm_number an_number cd_number ct_number), sl_number⟩)
    (c_number : PySem.W.codeIn K cd_number "_law_number" = true)
    (k_number : PySem.W.keepIn K (.ref x_number) = true)
    {x_lis_whole : Addr} {od_lis_whole an_lis_whole : Option Addr} {sl_lis_whole : Array (Option Value)} {oc_lis_whole dc_lis_whole pm_lis_whole cd_lis_whole ct_lis_whole : Value}
    {kV_lis_whole : Value}
    (a_lis_whole : PySem.W.nsIn K mainGlobals "_law_is_whole" = some (some (.ref x_lis_whole)))
    (l_lis_whole : K.lookup x_lis_whole = some ⟨oc_lis_whole, od_lis_whole, .func (PySem.W.fnOf "_law_is_whole" "_law_is_whole" (defArgs s_lis_whole) (defBody s_lis_whole) (defScope s_lis_whole) .none kV_lis_whole dc_lis_whole pm_lis_whole an_lis_whole cd_lis_whole ct_lis_whole), sl_lis_whole⟩)
    (c_lis_whole : PySem.W.codeIn K cd_lis_whole "_law_is_whole" = true)
    (k_lis_whole : PySem.W.keepIn K (.ref x_lis_whole) = true)
    {x_is_row : Addr} {od_is_row an_is_row : Option Addr} {sl_is_row : Array (Option Value)} {oc_is_row dc_is_row pm_is_row cd_is_row ct_is_row : Value}
    {kV_is_row : Value}
    (a_is_row : PySem.W.nsIn K mainGlobals "_law_is_row" = some (some (.ref x_is_row)))
    (l_is_row : K.lookup x_is_row = some ⟨oc_is_row, od_is_row, .func (PySem.W.fnOf "_law_is_row" "_law_is_row" (defArgs s_is_row) (defBody s_is_row) (defScope s_is_row) .none kV_is_row dc_is_row pm_is_row an_is_row cd_is_row ct_is_row), sl_is_row⟩)
    (c_is_row : PySem.W.codeIn K cd_is_row "_law_is_row" = true)
    (k_is_row : PySem.W.keepIn K (.ref x_is_row) = true)
    {x_lis_number : Addr} {od_lis_number an_lis_number : Option Addr} {sl_lis_number : Array (Option Value)} {oc_lis_number dc_lis_number pm_lis_number cd_lis_number ct_lis_number : Value}
    {kV_lis_number : Value}
    (a_lis_number : PySem.W.nsIn K mainGlobals "_law_is_number" = some (some (.ref x_lis_number)))
    (l_lis_number : K.lookup x_lis_number = some ⟨oc_lis_number, od_lis_number, .func (PySem.W.fnOf "_law_is_number" "_law_is_number" (defArgs s_lis_number) (defBody s_lis_number) (defScope s_lis_number) .none kV_lis_number dc_lis_number pm_lis_number an_lis_number cd_lis_number ct_lis_number), sl_lis_number⟩)
    (c_lis_number : PySem.W.codeIn K cd_lis_number "_law_is_number" = true)
    (k_lis_number : PySem.W.keepIn K (.ref x_lis_number) = true)
    {x_is_pair : Addr} {od_is_pair an_is_pair : Option Addr} {sl_is_pair : Array (Option Value)} {oc_is_pair dc_is_pair pm_is_pair cd_is_pair ct_is_pair : Value}
    {kV_is_pair : Value}
    (a_is_pair : PySem.W.nsIn K mainGlobals "_law_is_pair" = some (some (.ref x_is_pair)))
    (l_is_pair : K.lookup x_is_pair = some ⟨oc_is_pair, od_is_pair, .func (PySem.W.fnOf "_law_is_pair" "_law_is_pair" (defArgs s_is_pair) (defBody s_is_pair) (defScope s_is_pair) .none kV_is_pair dc_is_pair pm_is_pair an_is_pair cd_is_pair ct_is_pair), sl_is_pair⟩)
    (c_is_pair : PySem.W.codeIn K cd_is_pair "_law_is_pair" = true)
    (k_is_pair : PySem.W.keepIn K (.ref x_is_pair) = true)
    {x_fault : Addr} {od_fault an_fault : Option Addr} {sl_fault : Array (Option Value)} {oc_fault dc_fault pm_fault cd_fault ct_fault : Value}
    {kV_fault : Value}
    (a_fault : PySem.W.nsIn K mainGlobals "_law_fault" = some (some (.ref x_fault)))
    (l_fault : K.lookup x_fault = some ⟨oc_fault, od_fault, .func (PySem.W.fnOf "_law_fault" "_law_fault" (defArgs s_fault) (defBody s_fault) (defScope s_fault) .none kV_fault dc_fault pm_fault an_fault cd_fault ct_fault), sl_fault⟩)
    (c_fault : PySem.W.codeIn K cd_fault "_law_fault" = true)
    (k_fault : PySem.W.keepIn K (.ref x_fault) = true)
    {x_as : Addr} {od_as an_as : Option Addr} {sl_as : Array (Option Value)} {oc_as dc_as pm_as cd_as ct_as : Value}
    {kV_as : Value}
    (a_as : PySem.W.nsIn K mainGlobals "_law_as" = some (some (.ref x_as)))
    (l_as : K.lookup x_as = some ⟨oc_as, od_as, .func (PySem.W.fnOf "_law_as" "_law_as" (defArgs s_as) (defBody s_as) (defScope s_as) .none kV_as dc_as pm_as an_as cd_as ct_as), sl_as⟩)
    (c_as : PySem.W.codeIn K cd_as "_law_as" = true)
    (k_as : PySem.W.keepIn K (.ref x_as) = true)
    {x_parts : Addr} {od_parts an_parts : Option Addr} {sl_parts : Array (Option Value)} {oc_parts dc_parts pm_parts cd_parts ct_parts : Value}
    {kV_parts : Value}
    (a_parts : PySem.W.nsIn K mainGlobals "_law_parts" = some (some (.ref x_parts)))
    (l_parts : K.lookup x_parts = some ⟨oc_parts, od_parts, .func (PySem.W.fnOf "_law_parts" "_law_parts" (defArgs s_parts) (defBody s_parts) (defScope s_parts) .none kV_parts dc_parts pm_parts an_parts cd_parts ct_parts), sl_parts⟩)
    (c_parts : PySem.W.codeIn K cd_parts "_law_parts" = true)
    (k_parts : PySem.W.keepIn K (.ref x_parts) = true)
    {x_odd : Addr} {od_odd an_odd : Option Addr} {sl_odd : Array (Option Value)} {oc_odd dc_odd pm_odd cd_odd ct_odd : Value}
    {kV_odd : Value}
    (a_odd : PySem.W.nsIn K mainGlobals "_law_odd" = some (some (.ref x_odd)))
    (l_odd : K.lookup x_odd = some ⟨oc_odd, od_odd, .func (PySem.W.fnOf "_law_odd" "_law_odd" (defArgs s_odd) (defBody s_odd) (defScope s_odd) .none kV_odd dc_odd pm_odd an_odd cd_odd ct_odd), sl_odd⟩)
    (c_odd : PySem.W.codeIn K cd_odd "_law_odd" = true)
    (k_odd : PySem.W.keepIn K (.ref x_odd) = true)
    {x_line : Addr} {od_line an_line : Option Addr} {sl_line : Array (Option Value)} {oc_line dc_line pm_line cd_line ct_line : Value}
    {kV_line : Value}
    (a_line : PySem.W.nsIn K mainGlobals "_law_line" = some (some (.ref x_line)))
    (l_line : K.lookup x_line = some ⟨oc_line, od_line, .func (PySem.W.fnOf "_law_line" "_law_line" (defArgs s_line) (defBody s_line) (defScope s_line) .none kV_line dc_line pm_line an_line cd_line ct_line), sl_line⟩)
    (c_line : PySem.W.codeIn K cd_line "_law_line" = true)
    (k_line : PySem.W.keepIn K (.ref x_line) = true)
    {x_figures : Addr} {od_figures an_figures : Option Addr} {sl_figures : Array (Option Value)} {oc_figures dc_figures pm_figures cd_figures ct_figures : Value}
    {kV_figures : Value}
    (a_figures : PySem.W.nsIn K mainGlobals "_law_figures" = some (some (.ref x_figures)))
    (l_figures : K.lookup x_figures = some ⟨oc_figures, od_figures, .func (PySem.W.fnOf "_law_figures" "_law_figures" (defArgs s_figures) (defBody s_figures) (defScope s_figures) .none kV_figures dc_figures pm_figures an_figures cd_figures ct_figures), sl_figures⟩)
    (c_figures : PySem.W.codeIn K cd_figures "_law_figures" = true)
    (k_figures : PySem.W.keepIn K (.ref x_figures) = true)
    {x_read : Addr} {od_read an_read : Option Addr} {sl_read : Array (Option Value)} {oc_read dc_read pm_read cd_read ct_read : Value}
    {kV_read : Value}
    (a_read : PySem.W.nsIn K mainGlobals "_law_read" = some (some (.ref x_read)))
    (l_read : K.lookup x_read = some ⟨oc_read, od_read, .func (PySem.W.fnOf "_law_read" "_law_read" (defArgs s_read) (defBody s_read) (defScope s_read) .none kV_read dc_read pm_read an_read cd_read ct_read), sl_read⟩)
    (c_read : PySem.W.codeIn K cd_read "_law_read" = true)
    (k_read : PySem.W.keepIn K (.ref x_read) = true)
    {x_bent : Addr} {od_bent an_bent : Option Addr} {sl_bent : Array (Option Value)} {oc_bent dc_bent pm_bent cd_bent ct_bent : Value}
    {kV_bent : Value}
    (a_bent : PySem.W.nsIn K mainGlobals "_law_bent" = some (some (.ref x_bent)))
    (l_bent : K.lookup x_bent = some ⟨oc_bent, od_bent, .func (PySem.W.fnOf "_law_bent" "_law_bent" (defArgs s_bent) (defBody s_bent) (defScope s_bent) .none kV_bent dc_bent pm_bent an_bent cd_bent ct_bent), sl_bent⟩)
    (c_bent : PySem.W.codeIn K cd_bent "_law_bent" = true)
    (k_bent : PySem.W.keepIn K (.ref x_bent) = true)
    {x_shown : Addr} {od_shown an_shown : Option Addr} {sl_shown : Array (Option Value)} {oc_shown dc_shown pm_shown cd_shown ct_shown : Value}
    {kV_shown : Value}
    (a_shown : PySem.W.nsIn K mainGlobals "_law_shown" = some (some (.ref x_shown)))
    (l_shown : K.lookup x_shown = some ⟨oc_shown, od_shown, .func (PySem.W.fnOf "_law_shown" "_law_shown" (defArgs s_shown) (defBody s_shown) (defScope s_shown) .none kV_shown dc_shown pm_shown an_shown cd_shown ct_shown), sl_shown⟩)
    (c_shown : PySem.W.codeIn K cd_shown "_law_shown" = true)
    (k_shown : PySem.W.keepIn K (.ref x_shown) = true)
    {x_plain : Addr} {od_plain an_plain : Option Addr} {sl_plain : Array (Option Value)} {oc_plain dc_plain pm_plain cd_plain ct_plain : Value}
    {kV_plain : Value}
    (a_plain : PySem.W.nsIn K mainGlobals "_law_plain" = some (some (.ref x_plain)))
    (l_plain : K.lookup x_plain = some ⟨oc_plain, od_plain, .func (PySem.W.fnOf "_law_plain" "_law_plain" (defArgs s_plain) (defBody s_plain) (defScope s_plain) .none kV_plain dc_plain pm_plain an_plain cd_plain ct_plain), sl_plain⟩)
    (c_plain : PySem.W.codeIn K cd_plain "_law_plain" = true)
    (k_plain : PySem.W.keepIn K (.ref x_plain) = true)
    {x_tried : Addr} {od_tried an_tried : Option Addr} {sl_tried : Array (Option Value)} {oc_tried dc_tried pm_tried cd_tried ct_tried : Value}
    {kV_tried : Value}
    (a_tried : PySem.W.nsIn K mainGlobals "_law_tried" = some (some (.ref x_tried)))
    (l_tried : K.lookup x_tried = some ⟨oc_tried, od_tried, .func (PySem.W.fnOf "_law_tried" "_law_tried" (defArgs s_tried) (defBody s_tried) (defScope s_tried) .none kV_tried dc_tried pm_tried an_tried cd_tried ct_tried), sl_tried⟩)
    (c_tried : PySem.W.codeIn K cd_tried "_law_tried" = true)
    (k_tried : PySem.W.keepIn K (.ref x_tried) = true)
    {x_read_tried : Addr} {od_read_tried an_read_tried : Option Addr} {sl_read_tried : Array (Option Value)} {oc_read_tried dc_read_tried pm_read_tried cd_read_tried ct_read_tried : Value}
    {kV_read_tried : Value}
    (a_read_tried : PySem.W.nsIn K mainGlobals "_law_read_tried" = some (some (.ref x_read_tried)))
    (l_read_tried : K.lookup x_read_tried = some ⟨oc_read_tried, od_read_tried, .func (PySem.W.fnOf "_law_read_tried" "_law_read_tried" (defArgs s_read_tried) (defBody s_read_tried) (defScope s_read_tried) .none kV_read_tried dc_read_tried pm_read_tried an_read_tried cd_read_tried ct_read_tried), sl_read_tried⟩)
    (c_read_tried : PySem.W.codeIn K cd_read_tried "_law_read_tried" = true)
    (k_read_tried : PySem.W.keepIn K (.ref x_read_tried) = true)
    {x_kept : Addr} {od_kept an_kept : Option Addr} {sl_kept : Array (Option Value)} {oc_kept dc_kept pm_kept cd_kept ct_kept : Value}
    {kV_kept : Value}
    (a_kept : PySem.W.nsIn K mainGlobals "_law_kept" = some (some (.ref x_kept)))
    (l_kept : K.lookup x_kept = some ⟨oc_kept, od_kept, .func (PySem.W.fnOf "_law_kept" "_law_kept" (defArgs s_kept) (defBody s_kept) (defScope s_kept) .none kV_kept dc_kept pm_kept an_kept cd_kept ct_kept), sl_kept⟩)
    (c_kept : PySem.W.codeIn K cd_kept "_law_kept" = true)
    (k_kept : PySem.W.keepIn K (.ref x_kept) = true)
    {x_law : Addr} {od_law an_law : Option Addr} {sl_law : Array (Option Value)} {oc_law dc_law pm_law cd_law ct_law : Value}
    {kV_law : Value}
    (a_law : PySem.W.nsIn K mainGlobals "law" = some (some (.ref x_law)))
    (l_law : K.lookup x_law = some ⟨oc_law, od_law, .func (PySem.W.fnOf "law" "law" (defArgs s_law) (defBody s_law) (defScope s_law) .none kV_law dc_law pm_law an_law cd_law ct_law), sl_law⟩)
    (c_law : PySem.W.codeIn K cd_law "law" = true)
    (k_law : PySem.W.keepIn K (.ref x_law) = true)
    (pgQ : PySem.W.plainGet K xC Str.empty = true)
    (hdQ : PySem.W.hasDictIn K xC = true)
    (poQ : PySem.W.plainOver K xC = true)
    (saQ : PySem.W.findIn K (.ref xC) "__setattr__" = some (some (.builtin "object.__setattr__")))
    (mkQ : PySem.W.makesIn K xC = true)
    (kcQ : PySem.W.keepIn K (.ref xC) = true)
    (nNu : PySem.W.findIn K (.ref xC) "number" = some none)
    (nOr : PySem.W.findIn K (.ref xC) "order" = some none)
    (nCo : PySem.W.findIn K (.ref xC) "counts" = some none)
    (nOw : PySem.W.findIn K (.ref xC) "owed" = some none)
    (nMo : PySem.W.findIn K (.ref xC) "moves" = some none)
    (rdQ : PySem.W.readsIn K xC (.type "type") = true)
    (gaQ : PySem.W.specialIn K (.ref xC) "__getattribute__" = some (some (.builtin "type.__getattribute__")))
    {tP : Tok}
    (vG : PySem.W.findCls K (.ref xC) (.type "type") "GRADES" = some (.val (.int 3 tP)))
    {eCC eIC : Addr} {enmC eqC : Str} {eNC : Addr} {ebsC ebmC : List Value} {esnC : List Str} {esubC : List Value} {eabC : Bool} {ecolC : Option Bool} {eddC : Option Addr} {em0C em1C em2C em3C em5C : Option Value}
    {eocC edcC epmC ecdC ectC : Value} {eodC eanC : Option Addr} {eslC : Array (Option Value)} {ep1C ep2C eq1C eq2C eq3C eq4C : Pos}
    (e_aC : PySem.W.nsIn K mainGlobals "BadCard" = some (some (.ref eCC)))
    (e_xC : K.lookup eCC = some (excClassObj enmC eqC eCC eNC ebsC ebmC true esnC esubC eabC ecolC eddC em0C em1C em2C em3C em5C "ValueError.__new__"))
    (e_bC : PySem.HandSPX.refsVE ebmC = true)
    (e_sC : PySem.W.findIn K (.ref eCC) "__setattr__" = some (some (.builtin "object.__setattr__"))) (e_gC : PySem.W.findIn K (.ref eCC) "__getattribute__" = some (some (.builtin "BaseException.__getattribute__"))) (e_hC : PySem.W.findIn K (.ref eCC) "__getattr__" = some none) (e_nC : PySem.W.findIn K (.ref eCC) "what" = some none)
    (e_iC : PySem.W.findIn K (.ref eCC) "__init__" = some (some (.ref eIC))) (e_tC : PySem.W.typeIn K (.ref eIC) = some (.type "function"))
    (e_lC : K.lookup eIC = some ⟨eocC, eodC, .func (PySem.W.fnOf "__init__" "BadCard.__init__" (PySem.LowC.iA ep1C ep2C) (PySem.LowC.iB eq1C eq2C eq3C eq4C) PySem.LowC.iS .none .none edcC epmC eanC ecdC ectC), eslC⟩) (e_cC : PySem.W.codeIn K ecdC "BadCard.__init__" = true)
    (e_kC : PySem.W.keepIn K (.ref eCC) = true) (e_eC : PySem.W.subIn K (.ref eCC) (.type "BaseException") = some true) (e_tyC : PySem.W.typeIn K (.ref eCC) = some (.type "type")) (e_dC : PySem.W.hasDictIn K eCC = true) (e_scC : PySem.W.subIn K (.ref eCC) (.ref eCC) = some true)
    {eCT eIT : Addr} {enmT eqT : Str} {eNT : Addr} {ebsT ebmT : List Value} {esnT : List Str} {esubT : List Value} {eabT : Bool} {ecolT : Option Bool} {eddT : Option Addr} {em0T em1T em2T em3T em5T : Option Value}
    {eocT edcT epmT ecdT ectT : Value} {eodT eanT : Option Addr} {eslT : Array (Option Value)} {ep1T ep2T eq1T eq2T eq3T eq4T : Pos}
    (e_aT : PySem.W.nsIn K mainGlobals "BadCardText" = some (some (.ref eCT)))
    (e_xT : K.lookup eCT = some (excClassObj enmT eqT eCT eNT ebsT ebmT true esnT esubT eabT ecolT eddT em0T em1T em2T em3T em5T "ValueError.__new__"))
    (e_bT : PySem.HandSPX.refsVE ebmT = true)
    (e_sT : PySem.W.findIn K (.ref eCT) "__setattr__" = some (some (.builtin "object.__setattr__"))) (e_gT : PySem.W.findIn K (.ref eCT) "__getattribute__" = some (some (.builtin "BaseException.__getattribute__"))) (e_hT : PySem.W.findIn K (.ref eCT) "__getattr__" = some none) (e_nT : PySem.W.findIn K (.ref eCT) "text" = some none)
    (e_iT : PySem.W.findIn K (.ref eCT) "__init__" = some (some (.ref eIT))) (e_tT : PySem.W.typeIn K (.ref eIT) = some (.type "function"))
    (e_lT : K.lookup eIT = some ⟨eocT, eodT, .func (PySem.W.fnOf "__init__" "BadCardText.__init__" (PySem.LowT.iA ep1T ep2T) (PySem.LowT.iB eq1T eq2T eq3T eq4T) PySem.LowT.iS .none .none edcT epmT eanT ecdT ectT), eslT⟩) (e_cT : PySem.W.codeIn K ecdT "BadCardText.__init__" = true)
    (e_kT : PySem.W.keepIn K (.ref eCT) = true) (e_eT : PySem.W.subIn K (.ref eCT) (.type "BaseException") = some true) (e_tyT : PySem.W.typeIn K (.ref eCT) = some (.type "type")) (e_dT : PySem.W.hasDictIn K eCT = true) (e_scT : PySem.W.subIn K (.ref eCT) (.ref eCT) = some true)
    {eW eS : Addr}
    (e_w : PySem.W.nsIn K mainGlobals "WheelError" = some (some (.ref eW)))
    (e_s : PySem.W.nsIn K mainGlobals "BadStations" = some (some (.ref eS)))
    (kcw : PySem.W.kitOne K (.ref eCC) (.ref eW) = some true)
    (kct : PySem.W.kitOne K (.ref eCC) (.ref eCT) = some false)
    (kcs : PySem.W.kitOne K (.ref eCC) (.ref eS) = some false)
    (ktw : PySem.W.kitOne K (.ref eCT) (.ref eW) = some true)
    (ktc : PySem.W.kitOne K (.ref eCT) (.ref eCC) = some false)
    (e_icC : PySem.W.isClsIn K eCC = true)
    (e_icT : PySem.W.isClsIn K eCT = true)
    (e_haC : PySem.W.findIn K (.ref eCC) "__class__" = some (some (.builtin "object.__class__")))
    (e_haT : PySem.W.findIn K (.ref eCT) "__class__" = some (some (.builtin "object.__class__")))
    (e_hmC : PySem.W.mroIn K eCC (.type "object") = some true)
    (e_hmT : PySem.W.mroIn K eCT (.type "object") = some true)
    (icn : PySem.W.specialIn K (.builtin "object.__class__") "__get__" = some (some (.builtin "getset_descriptor.__get__")))
    (ict : PySem.W.takesIn K (.builtin "object.__class__") = some true)
    {t_DIGITS : Tok}
    (n_DIGITS : PySem.W.nsIn K mainGlobals "DIGITS" = some (some (.str "123456789" t_DIGITS)))
    {t_MOST_DIGITS : Tok}
    (n_MOST_DIGITS : PySem.W.nsIn K mainGlobals "MOST_DIGITS" = some (some (.int 4 t_MOST_DIGITS)))
    {t_GREATEST_SUM : Tok}
    (n_GREATEST_SUM : PySem.W.nsIn K mainGlobals "GREATEST_SUM" = some (some (.int 24 t_GREATEST_SUM)))
    {t_MOST_CREWS : Tok}
    (n_MOST_CREWS : PySem.W.nsIn K mainGlobals "MOST_CREWS" = some (some (.int 6 t_MOST_CREWS)))
    {t_LAST_CREW : Tok}
    (n_LAST_CREW : PySem.W.nsIn K mainGlobals "LAST_CREW" = some (some (.int 5 t_LAST_CREW)))
    {t_LAST_STATION : Tok}
    (n_LAST_STATION : PySem.W.nsIn K mainGlobals "LAST_STATION" = some (some (.int 8 t_LAST_STATION)))
    {t_MOST_MOVES : Tok}
    (n_MOST_MOVES : PySem.W.nsIn K mainGlobals "MOST_MOVES" = some (some (.int 6 t_MOST_MOVES)))
    {t_EMPTY : Tok}
    (n_EMPTY : PySem.W.nsIn K mainGlobals "EMPTY" = some (some (.str "-" t_EMPTY)))
    (z_abs : PySem.W.nsIn K mainGlobals "abs" = some none)
    (z_all : PySem.W.nsIn K mainGlobals "all" = some none)
    (z_bool : PySem.W.nsIn K mainGlobals "bool" = some none)
    (z_enumerate : PySem.W.nsIn K mainGlobals "enumerate" = some none)
    (z_int : PySem.W.nsIn K mainGlobals "int" = some none)
    (z_isinstance : PySem.W.nsIn K mainGlobals "isinstance" = some none)
    (z_len : PySem.W.nsIn K mainGlobals "len" = some none)
    (z_list : PySem.W.nsIn K mainGlobals "list" = some none)
    (z_max : PySem.W.nsIn K mainGlobals "max" = some none)
    (z_min : PySem.W.nsIn K mainGlobals "min" = some none)
    (z_range : PySem.W.nsIn K mainGlobals "range" = some none)
    (z_repr : PySem.W.nsIn K mainGlobals "repr" = some none)
    (z_set : PySem.W.nsIn K mainGlobals "set" = some none)
    (z_str : PySem.W.nsIn K mainGlobals "str" = some none)
    (z_sum : PySem.W.nsIn K mainGlobals "sum" = some none)
    (z_tuple : PySem.W.nsIn K mainGlobals "tuple" = some none)
    : ∃ fd : FuncData, (∀ (s : Shared) (v : Value), BindsTo s fd ⟨[v], []⟩ [("_law_script", v)]) ∧ ∀ base : Heap, K.In base → base.Ns mainGlobals mg → Rp.GOk l.prog w K mg base CX0 11 fa fd ["_law_script"] (sp_law K) := by
  have e := hfa.symm.trans (PySem.W.mg_of X G a_law)
  cases e
  have F_is_whole := fun_mk (st := s_is_whole) l_is_whole c_is_whole k_is_whole
  have b_is_whole := F_is_whole.binds (ps := ["thing"]) fun _ _ _ _ _ _ us hl => match us, hl with | [_], _ => rfl
  have F_is_whole_within := fun_mk (st := s_is_whole_within) l_is_whole_within c_is_whole_within k_is_whole_within
  have b_is_whole_within := F_is_whole_within.binds (ps := ["thing", "low", "high"]) fun _ _ _ _ _ _ us hl => match us, hl with | [_, _, _], _ => rfl
  have F_is_sequence := fun_mk (st := s_is_sequence) l_is_sequence c_is_sequence k_is_sequence
  have b_is_sequence := F_is_sequence.binds (ps := ["thing"]) fun _ _ _ _ _ _ us hl => match us, hl with | [_], _ => rfl
  have F_is_digit := fun_mk (st := s_is_digit) l_is_digit c_is_digit k_is_digit
  have b_is_digit := F_is_digit.binds (ps := ["word"]) fun _ _ _ _ _ _ us hl => match us, hl with | [_], _ => rfl
  have F_is_number := fun_mk (st := s_is_number) l_is_number c_is_number k_is_number
  have b_is_number := F_is_number.binds (ps := ["thing"]) fun _ _ _ _ _ _ us hl => match us, hl with | [_], _ => rfl
  have F_is_station := fun_mk (st := s_is_station) l_is_station c_is_station k_is_station
  have b_is_station := F_is_station.binds (ps := ["thing"]) fun _ _ _ _ _ _ us hl => match us, hl with | [_], _ => rfl
  have F_is_crew := fun_mk (st := s_is_crew) l_is_crew c_is_crew k_is_crew
  have b_is_crew := F_is_crew.binds (ps := ["thing"]) fun _ _ _ _ _ _ us hl => match us, hl with | [_], _ => rfl
  have F_is_stations := fun_mk (st := s_is_stations) l_is_stations c_is_stations k_is_stations
  have b_is_stations := F_is_stations.binds (ps := ["thing"]) fun _ _ _ _ _ _ us hl => match us, hl with | [_], _ => rfl
  have F_is_order := fun_mk (st := s_is_order) l_is_order c_is_order k_is_order
  have b_is_order := F_is_order.binds (ps := ["thing"]) fun _ _ _ _ _ _ us hl => match us, hl with | [_], _ => rfl
  have F_are_counts := fun_mk (st := s_are_counts) l_are_counts c_are_counts k_are_counts
  have b_are_counts := F_are_counts.binds (ps := ["thing"]) fun _ _ _ _ _ _ us hl => match us, hl with | [_], _ => rfl
  have F_is_move := fun_mk (st := s_is_move) l_is_move c_is_move k_is_move
  have b_is_move := F_is_move.binds (ps := ["thing"]) fun _ _ _ _ _ _ us hl => match us, hl with | [_], _ => rfl
  have F_are_moves := fun_mk (st := s_are_moves) l_are_moves c_are_moves k_are_moves
  have b_are_moves := F_are_moves.binds (ps := ["thing"]) fun _ _ _ _ _ _ us hl => match us, hl with | [_], _ => rfl
  have F_cinit : FunD K "__init__" "Card.__init__" (defArgs s_cinit) (defBody s_cinit) (defScope s_cinit) [] [("owed", V.ref xO), ("moves", V.ref xM)] x_cinit _ := ⟨⟨_, _, _, _, _, _, _, _, _, _, rfl, l_cinit, c_cinit, .inl ⟨rfl, rfl⟩, .inr ⟨xF, rfl, fun q m => by
    simp only [List.mem_cons, List.not_mem_nil, or_false] at m
    rcases m with rfl | rfl
    · exact ⟨_, e_owed, rfl⟩
    · exact ⟨_, e_moves, rfl⟩⟩⟩, k_cinit⟩
  have kb2 := F_cinit.kbinds0 (ps := ["self", "number", "order", "counts", "owed", "moves"]) 3 ["counts", "owed", "moves"] [] (fun vs mz zs => vs ++ zs) (List.cons_ne_nil _ _) (fun _ h => absurd h (by simp)) (fun a b c => a.append c) fun D doc pm an cdv ct us mv ws h1 h2 h3 => match us, mv, ws, h1, h2, h3 with | [_, _, _], [], [_, _, _], _, _, _ => rfl
  obtain ⟨_, kb2⟩ := kb2
  have kb1 := F_cinit.kbinds0 (ps := ["self", "number", "order", "counts", "owed", "moves"]) 3 ["counts"] [("owed", V.ref xO), ("moves", V.ref xM)] (fun vs mz zs => vs ++ zs ++ mz) (List.cons_ne_nil _ _) (fun _ h => h) (fun a b c => (a.append c).append b) fun D doc pm an cdv ct us mv ws h1 h2 h3 => match us, mv, ws, h1, h2, h3 with | [_, _, _], [_, _], [_], _, _, _ => ⟨_, _, _, _, _, _, rfl, rfl, _, _, _, _, _, _, rfl, rfl, rfl⟩
  obtain ⟨mv1, kb1⟩ := kb1
  have tOt : ∀ H, SqT K H xO [.int 0, .int 0, .int 0] := fun H => .inr ⟨_, _, _, w_O, rfl, rfl, by show 3 ≤ sizeLine; decide, .cons ⟨_, rfl⟩ (.cons ⟨_, rfl⟩ (.cons ⟨_, rfl⟩ .nil))⟩
  have tMt : ∀ H, SqT K H xM [] := fun H => .inr ⟨_, _, _, w_M, rfl, rfl, by show 0 ≤ sizeLine; exact Nat.zero_le _, .nil⟩
  have F_joined := fun_mk (st := s_joined) l_joined c_joined k_joined
  have b_joined := F_joined.binds (ps := ["wholes"]) fun _ _ _ _ _ _ us hl => match us, hl with | [_], _ => rfl
  have F_card_text := fun_mk (st := s_card_text) l_card_text c_card_text k_card_text
  have b_card_text := F_card_text.binds (ps := ["card"]) fun _ _ _ _ _ _ us hl => match us, hl with | [_], _ => rfl
  have F_digits_in := fun_mk (st := s_digits_in) l_digits_in c_digits_in k_digits_in
  have b_digits_in := F_digits_in.binds (ps := ["text", "separator"]) fun _ _ _ _ _ _ us hl => match us, hl with | [_, _], _ => rfl
  have F_read_card := fun_mk (st := s_read_card) l_read_card c_read_card k_read_card
  have b_read_card := F_read_card.binds (ps := ["text"]) fun _ _ _ _ _ _ us hl => match us, hl with | [_], _ => rfl
  have F_bag := fun_mk (st := s_bag) l_bag c_bag k_bag
  have b_bag := F_bag.binds (ps := ["_law_script", "_law_at"]) fun _ _ _ _ _ _ us hl => match us, hl with | [_, _], _ => rfl
  have F_take := fun_mk (st := s_take) l_take c_take k_take
  have b_take := F_take.binds (ps := ["_law_bag_here", "_law_many"]) fun _ _ _ _ _ _ us hl => match us, hl with | [_, _], _ => rfl
  have F_of := fun_mk (st := s_of) l_of c_of k_of
  have b_of := F_of.binds (ps := ["_law_bag_here", "_law_some"]) fun _ _ _ _ _ _ us hl => match us, hl with | [_, _], _ => rfl
  have F_number := fun_mk (st := s_number) l_number c_number k_number
  have b_number := F_number.binds (ps := ["_law_bag_here"]) fun _ _ _ _ _ _ us hl => match us, hl with | [_], _ => rfl
  have F_lis_whole := fun_mk (st := s_lis_whole) l_lis_whole c_lis_whole k_lis_whole
  have b_lis_whole := F_lis_whole.binds (ps := ["_law_thing", "_law_most"]) fun _ _ _ _ _ _ us hl => match us, hl with | [_, _], _ => rfl
  have F_is_row := fun_mk (st := s_is_row) l_is_row c_is_row k_is_row
  have b_is_row := F_is_row.binds (ps := ["_law_thing", "_law_least", "_law_most", "_law_top"]) fun _ _ _ _ _ _ us hl => match us, hl with | [_, _, _, _], _ => rfl
  have F_lis_number := fun_mk (st := s_lis_number) l_lis_number c_lis_number k_lis_number
  have b_lis_number := F_lis_number.binds (ps := ["_law_thing"]) fun _ _ _ _ _ _ us hl => match us, hl with | [_], _ => rfl
  have F_is_pair := fun_mk (st := s_is_pair) l_is_pair c_is_pair k_is_pair
  have b_is_pair := F_is_pair.binds (ps := ["_law_thing"]) fun _ _ _ _ _ _ us hl => match us, hl with | [_], _ => rfl
  have F_fault := fun_mk (st := s_fault) l_fault c_fault k_fault
  have b_fault := F_fault.binds (ps := ["_law_parts_here"]) fun _ _ _ _ _ _ us hl => match us, hl with | [_], _ => rfl
  have F_as := fun_mk (st := s_as) l_as c_as k_as
  have b_as := F_as.binds (ps := ["_law_bag_here", "_law_items"]) fun _ _ _ _ _ _ us hl => match us, hl with | [_, _], _ => rfl
  have F_parts := fun_mk (st := s_parts) l_parts c_parts k_parts
  have b_parts := F_parts.binds (ps := ["_law_bag_here"]) fun _ _ _ _ _ _ us hl => match us, hl with | [_], _ => rfl
  have F_odd := fun_mk (st := s_odd) l_odd c_odd k_odd
  have b_odd := F_odd.binds (ps := ["_law_bag_here", "_law_at"]) fun _ _ _ _ _ _ us hl => match us, hl with | [_, _], _ => rfl
  have F_line := fun_mk (st := s_line) l_line c_line k_line
  have b_line := F_line.binds (ps := ["_law_parts_here"]) fun _ _ _ _ _ _ us hl => match us, hl with | [_], _ => rfl
  have F_figures := fun_mk (st := s_figures) l_figures c_figures k_figures
  have b_figures := F_figures.binds (ps := ["_law_text"]) fun _ _ _ _ _ _ us hl => match us, hl with | [_], _ => rfl
  have F_read := fun_mk (st := s_read) l_read c_read k_read
  have b_read := F_read.binds (ps := ["_law_text"]) fun _ _ _ _ _ _ us hl => match us, hl with | [_], _ => rfl
  have F_bent := fun_mk (st := s_bent) l_bent c_bent k_bent
  have b_bent := F_bent.binds (ps := ["_law_bag_here", "_law_text"]) fun _ _ _ _ _ _ us hl => match us, hl with | [_, _], _ => rfl
  have F_shown := fun_mk (st := s_shown) l_shown c_shown k_shown
  have b_shown := F_shown.binds (ps := ["_law_card"]) fun _ _ _ _ _ _ us hl => match us, hl with | [_], _ => rfl
  have F_plain := fun_mk (st := s_plain) l_plain c_plain k_plain
  have b_plain := F_plain.binds (ps := ["_law_parts_here"]) fun _ _ _ _ _ _ us hl => match us, hl with | [_], _ => rfl
  have F_tried := fun_mk (st := s_tried) l_tried c_tried k_tried
  have b_tried := F_tried.binds (ps := ["_law_parts_here"]) fun _ _ _ _ _ _ us hl => match us, hl with | [_], _ => rfl
  have F_read_tried := fun_mk (st := s_read_tried) l_read_tried c_read_tried k_read_tried
  have b_read_tried := F_read_tried.binds (ps := ["_law_text"]) fun _ _ _ _ _ _ us hl => match us, hl with | [_], _ => rfl
  have F_kept := fun_mk (st := s_kept) l_kept c_kept k_kept
  have b_kept := F_kept.binds (ps := ["_law_parts_here"]) fun _ _ _ _ _ _ us hl => match us, hl with | [_], _ => rfl
  have F_law := fun_mk (st := s_law) l_law c_law k_law
  have b_law := F_law.binds (ps := ["_law_script"]) fun _ _ _ _ _ _ us hl => match us, hl with | [_], _ => rfl
  have lowC : PySem.LowC.LowTxt K mg eCC eIC :=
    { gC := PySem.W.mg_of X G e_aC, cls := ⟨enmC, eqC, eNC, ebsC, _, esnC, esubC, eabC, ecolC, eddC, em0C, em1C, em2C, em3C, em5C, e_xC, e_bC⟩, sa := e_sC, ga := e_gC, gg := e_hC, noN := e_nC, iC := e_iC, tC := e_tC, kC := e_kC, exC := e_eC, tyC := e_tyC, hdC := e_dC, te := PySem.W.exm_ref e_eC e_dC e_tyC e_scC,
      fn := ⟨_, _, _, _, _, _, _, _, _, _, _, _, _, _, e_lC, e_cC⟩ }
  have lowT : PySem.LowT.LowTxt K mg eCT eIT :=
    { gC := PySem.W.mg_of X G e_aT, cls := ⟨enmT, eqT, eNT, ebsT, _, esnT, esubT, eabT, ecolT, eddT, em0T, em1T, em2T, em3T, em5T, e_xT, e_bT⟩, sa := e_sT, ga := e_gT, gg := e_hT, noN := e_nT, iC := e_iT, tC := e_tT, kC := e_kT, exC := e_eT, tyC := e_tyT, hdC := e_dT, te := PySem.W.exm_ref e_eT e_dT e_tyT e_scT,
      fn := ⟨_, _, _, _, _, _, _, _, _, _, _, _, _, _, e_lT, e_cT⟩ }
  have T : Σ' T : Txt K mg, T.a_law = fa ∧ T.d_law = PySem.W.fnOf "law" "law" (defArgs s_law) (defBody s_law) (defScope s_law) .none kV_law dc_law pm_law an_law cd_law ct_law :=
    ⟨{ CC := xC, gCC := PySem.W.mg_of X G axC, clCC := ⟨pgQ, hdQ, poQ, saQ⟩,
        nNu := nNu, nOr := nOr, nCo := nCo, nOw := nOw, nMo := nMo,
        mcC := .type "type", rdC := ⟨rdQ, gaQ⟩, uG := _, vG := ⟨vG, ⟨_, rfl⟩⟩,
        CB := _, fB := _, lowC := lowC, CT := _, fT := _, lowT := lowT, Wc := _, gWc := PySem.W.mg_of X G e_w, Sc := _, gSc := PySem.W.mg_of X G e_s, kCW := kcw, kCT := kct, kCS := kcs, kTW := ktw, kTC := ktc,
        xcC := ⟨e_gC, e_hC, e_eC, e_dC, e_haC, icn, ict, e_hmC⟩, cliC := e_icC, xcT := ⟨e_gT, e_hT, e_eT, e_dT, e_haT, icn, ict, e_hmT⟩, cliT := e_icT,
        a_is_whole := _, d_is_whole := _, F_is_whole := F_is_whole, b_is_whole := b_is_whole, g_is_whole := PySem.W.mg_of X G a_is_whole,
        a_is_whole_within := _, d_is_whole_within := _, F_is_whole_within := F_is_whole_within, b_is_whole_within := b_is_whole_within, g_is_whole_within := PySem.W.mg_of X G a_is_whole_within,
        a_is_sequence := _, d_is_sequence := _, F_is_sequence := F_is_sequence, b_is_sequence := b_is_sequence, g_is_sequence := PySem.W.mg_of X G a_is_sequence,
        a_is_digit := _, d_is_digit := _, F_is_digit := F_is_digit, b_is_digit := b_is_digit, g_is_digit := PySem.W.mg_of X G a_is_digit,
        a_is_number := _, d_is_number := _, F_is_number := F_is_number, b_is_number := b_is_number, g_is_number := PySem.W.mg_of X G a_is_number,
        a_is_station := _, d_is_station := _, F_is_station := F_is_station, b_is_station := b_is_station, g_is_station := PySem.W.mg_of X G a_is_station,
        a_is_crew := _, d_is_crew := _, F_is_crew := F_is_crew, b_is_crew := b_is_crew, g_is_crew := PySem.W.mg_of X G a_is_crew,
        a_is_stations := _, d_is_stations := _, F_is_stations := F_is_stations, b_is_stations := b_is_stations, g_is_stations := PySem.W.mg_of X G a_is_stations,
        a_is_order := _, d_is_order := _, F_is_order := F_is_order, b_is_order := b_is_order, g_is_order := PySem.W.mg_of X G a_is_order,
        a_are_counts := _, d_are_counts := _, F_are_counts := F_are_counts, b_are_counts := b_are_counts, g_are_counts := PySem.W.mg_of X G a_are_counts,
        a_is_move := _, d_is_move := _, F_is_move := F_is_move, b_is_move := b_is_move, g_is_move := PySem.W.mg_of X G a_is_move,
        a_are_moves := _, d_are_moves := _, F_are_moves := F_are_moves, b_are_moves := b_are_moves, g_are_moves := PySem.W.mg_of X G a_are_moves,
        a_cinit := _, d_cinit := _, F_cinit := F_cinit, mk_cinit := ⟨mkQ, a_cinit, i_cinit, kcQ⟩, kb_cinit := kb2, mv1 := mv1, kb1_cinit := kb1, tO := xO, tM := xM, tOt := tOt, tMt := tMt,
        a_joined := _, d_joined := _, F_joined := F_joined, b_joined := b_joined, g_joined := PySem.W.mg_of X G a_joined,
        a_card_text := _, d_card_text := _, F_card_text := F_card_text, b_card_text := b_card_text, g_card_text := PySem.W.mg_of X G a_card_text,
        a_digits_in := _, d_digits_in := _, F_digits_in := F_digits_in, b_digits_in := b_digits_in, g_digits_in := PySem.W.mg_of X G a_digits_in,
        a_read_card := _, d_read_card := _, F_read_card := F_read_card, b_read_card := b_read_card, g_read_card := PySem.W.mg_of X G a_read_card,
        a_bag := _, d_bag := _, F_bag := F_bag, b_bag := b_bag, g_bag := PySem.W.mg_of X G a_bag,
        a_take := _, d_take := _, F_take := F_take, b_take := b_take, g_take := PySem.W.mg_of X G a_take,
        a_of := _, d_of := _, F_of := F_of, b_of := b_of, g_of := PySem.W.mg_of X G a_of,
        a_number := _, d_number := _, F_number := F_number, b_number := b_number, g_number := PySem.W.mg_of X G a_number,
        a_lis_whole := _, d_lis_whole := _, F_lis_whole := F_lis_whole, b_lis_whole := b_lis_whole, g_lis_whole := PySem.W.mg_of X G a_lis_whole,
        a_is_row := _, d_is_row := _, F_is_row := F_is_row, b_is_row := b_is_row, g_is_row := PySem.W.mg_of X G a_is_row,
        a_lis_number := _, d_lis_number := _, F_lis_number := F_lis_number, b_lis_number := b_lis_number, g_lis_number := PySem.W.mg_of X G a_lis_number,
        a_is_pair := _, d_is_pair := _, F_is_pair := F_is_pair, b_is_pair := b_is_pair, g_is_pair := PySem.W.mg_of X G a_is_pair,
        a_fault := _, d_fault := _, F_fault := F_fault, b_fault := b_fault, g_fault := PySem.W.mg_of X G a_fault,
        a_as := _, d_as := _, F_as := F_as, b_as := b_as, g_as := PySem.W.mg_of X G a_as,
        a_parts := _, d_parts := _, F_parts := F_parts, b_parts := b_parts, g_parts := PySem.W.mg_of X G a_parts,
        a_odd := _, d_odd := _, F_odd := F_odd, b_odd := b_odd, g_odd := PySem.W.mg_of X G a_odd,
        a_line := _, d_line := _, F_line := F_line, b_line := b_line, g_line := PySem.W.mg_of X G a_line,
        a_figures := _, d_figures := _, F_figures := F_figures, b_figures := b_figures, g_figures := PySem.W.mg_of X G a_figures,
        a_read := _, d_read := _, F_read := F_read, b_read := b_read, g_read := PySem.W.mg_of X G a_read,
        a_bent := _, d_bent := _, F_bent := F_bent, b_bent := b_bent, g_bent := PySem.W.mg_of X G a_bent,
        a_shown := _, d_shown := _, F_shown := F_shown, b_shown := b_shown, g_shown := PySem.W.mg_of X G a_shown,
        a_plain := _, d_plain := _, F_plain := F_plain, b_plain := b_plain, g_plain := PySem.W.mg_of X G a_plain,
        a_tried := _, d_tried := _, F_tried := F_tried, b_tried := b_tried, g_tried := PySem.W.mg_of X G a_tried,
        a_read_tried := _, d_read_tried := _, F_read_tried := F_read_tried, b_read_tried := b_read_tried, g_read_tried := PySem.W.mg_of X G a_read_tried,
        a_kept := _, d_kept := _, F_kept := F_kept, b_kept := b_kept, g_kept := PySem.W.mg_of X G a_kept,
        a_law := _, d_law := _, F_law := F_law, b_law := b_law, g_law := PySem.W.mg_of X G a_law,
        t_DIGITS := _, c_DIGITS := PySem.W.mg_of X G n_DIGITS,
        t_MOST_DIGITS := _, c_MOST_DIGITS := PySem.W.mg_of X G n_MOST_DIGITS,
        t_GREATEST_SUM := _, c_GREATEST_SUM := PySem.W.mg_of X G n_GREATEST_SUM,
        t_MOST_CREWS := _, c_MOST_CREWS := PySem.W.mg_of X G n_MOST_CREWS,
        t_LAST_CREW := _, c_LAST_CREW := PySem.W.mg_of X G n_LAST_CREW,
        t_LAST_STATION := _, c_LAST_STATION := PySem.W.mg_of X G n_LAST_STATION,
        t_MOST_MOVES := _, c_MOST_MOVES := PySem.W.mg_of X G n_MOST_MOVES,
        t_EMPTY := _, c_EMPTY := PySem.W.mg_of X G n_EMPTY,
        z_abs := PySem.W.mg_none_of X G z_abs,
        z_all := PySem.W.mg_none_of X G z_all,
        z_bool := PySem.W.mg_none_of X G z_bool,
        z_enumerate := PySem.W.mg_none_of X G z_enumerate,
        z_int := PySem.W.mg_none_of X G z_int,
        z_isinstance := PySem.W.mg_none_of X G z_isinstance,
        z_len := PySem.W.mg_none_of X G z_len,
        z_list := PySem.W.mg_none_of X G z_list,
        z_max := PySem.W.mg_none_of X G z_max,
        z_min := PySem.W.mg_none_of X G z_min,
        z_range := PySem.W.mg_none_of X G z_range,
        z_repr := PySem.W.mg_none_of X G z_repr,
        z_set := PySem.W.mg_none_of X G z_set,
        z_str := PySem.W.mg_none_of X G z_str,
        z_sum := PySem.W.mg_none_of X G z_sum,
        z_tuple := PySem.W.mg_none_of X G z_tuple }, rfl, rfl⟩
  obtain ⟨T, e1, e2⟩ := T
  subst e1
  refine ⟨T.d_law, fun s v => by rw [e2]; exact .of_eq rfl, fun base _ _ => ok_law T⟩
theorem walk {l : PySem.W.OpenLaw} {q : Program} {loose : List Str} {XP : (Str → Option Value) → Heap → Prop} {YP : World → Heap → Prop} {d : DefRec} {K : Params → PySem.W.Frag} (hn : l.most = some 63) (hdf : d.params.defaults = [])
    (hY : ∀ (w : World) (h : Heap), YP w h → (K w.params).In h)
    (F : ∀ (w : World) (mg : Str → Option Value) (fa : Addr) (h : Heap), (K w.params).In h → h.Ns mainGlobals mg → mg d.name = some (.ref fa) →
      ∃ fd : FuncData, (∀ (s : Shared) (u : Value), BindsTo s fd ⟨[u], []⟩ [("_law_script", u)]) ∧ ∀ base : Heap, (K w.params).In base → base.Ns mainGlobals mg → Rp.GOk l.prog w (K w.params) mg base CX0 11 fa fd ["_law_script"] (sp_law (K w.params))) :
    PySem.W.WalkO q loose XP YP l.row.toRowW d [] (fun f vs => PySem.call f vs) :=
  Rp.walk_gof (n := 63) (k := 11) (x := "_law_script") (CX := fun _ => CX0) (sp := fun w => sp_law (K w.params)) hn (by decide) hdf ⟨rfl, by decide, by decide⟩ hY F (fun w H a ns hl _ hS => ⟨a, ns, rfl, hS, hl, fun _ => rfl⟩) fun _ _ _ _ _ z => z
end K54

open PySem PySem.W PyProof.Rows in
set_option maxRecDepth 100000 in
set_option maxHeartbeats 0 in
theorem PySem.Challenge.cw_wheelchorus_k54_cards_and_their_texts_holds : PySem.Challenge.rw_wheelchorus_k54_cards_and_their_texts.Holds := by
  w_on; o_law; k_head; (case hw => w_witness2)
  k_fill
  refine K54.walk (l := PySem.Challenge.rw_wheelchorus_k54_cards_and_their_texts) rfl rfl (fun w h Y => PySem.W.kIn_of Y) ?F
  case F =>
    intro w mg fa h KX G hmg
    refine' K54.all_mk KX G hmg ?axC ?a_is_whole ?l_is_whole ?c_is_whole ?k_is_whole ?a_is_whole_within ?l_is_whole_within ?c_is_whole_within ?k_is_whole_within ?a_is_sequence ?l_is_sequence ?c_is_sequence ?k_is_sequence ?a_is_digit ?l_is_digit ?c_is_digit ?k_is_digit ?a_is_number ?l_is_number ?c_is_number ?k_is_number ?a_is_station ?l_is_station ?c_is_station ?k_is_station ?a_is_crew ?l_is_crew ?c_is_crew ?k_is_crew ?a_is_stations ?l_is_stations ?c_is_stations ?k_is_stations ?a_is_order ?l_is_order ?c_is_order ?k_is_order ?a_are_counts ?l_are_counts ?c_are_counts ?k_are_counts ?a_is_move ?l_is_move ?c_is_move ?k_is_move ?a_are_moves ?l_are_moves ?c_are_moves ?k_are_moves ?a_cinit ?i_cinit ?l_cinit ?c_cinit ?k_cinit ?e_owed ?e_moves ?w_O ?w_M ?a_joined ?l_joined ?c_joined ?k_joined ?a_card_text ?l_card_text ?c_card_text ?k_card_text ?a_digits_in ?l_digits_in ?c_digits_in ?k_digits_in ?a_read_card ?l_read_card ?c_read_card ?k_read_card ?a_bag ?l_bag ?c_bag ?k_bag ?a_take ?l_take ?c_take ?k_take ?a_of ?l_of ?c_of ?k_of ?a_number ?l_number ?c_number ?k_number ?a_lis_whole ?l_lis_whole ?c_lis_whole ?k_lis_whole ?a_is_row ?l_is_row ?c_is_row ?k_is_row ?a_lis_number ?l_lis_number ?c_lis_number ?k_lis_number ?a_is_pair ?l_is_pair ?c_is_pair ?k_is_pair ?a_fault ?l_fault ?c_fault ?k_fault ?a_as ?l_as ?c_as ?k_as ?a_parts ?l_parts ?c_parts ?k_parts ?a_odd ?l_odd ?c_odd ?k_odd ?a_line ?l_line ?c_line ?k_line ?a_figures ?l_figures ?c_figures ?k_figures ?a_read ?l_read ?c_read ?k_read ?a_bent ?l_bent ?c_bent ?k_bent ?a_shown ?l_shown ?c_shown ?k_shown ?a_plain ?l_plain ?c_plain ?k_plain ?a_tried ?l_tried ?c_tried ?k_tried ?a_read_tried ?l_read_tried ?c_read_tried ?k_read_tried ?a_kept ?l_kept ?c_kept ?k_kept ?a_law ?l_law ?c_law ?k_law ?pgQ ?hdQ ?poQ ?saQ ?mkQ ?kcQ ?nNu ?nOr ?nCo ?nOw ?nMo ?rdQ ?gaQ ?vG ?e_aC ?e_xC ?e_bC ?e_sC ?e_gC ?e_hC ?e_nC ?e_iC ?e_tC ?e_lC ?e_cC ?e_kC ?e_eC ?e_tyC ?e_dC ?e_scC ?e_aT ?e_xT ?e_bT ?e_sT ?e_gT ?e_hT ?e_nT ?e_iT ?e_tT ?e_lT ?e_cT ?e_kT ?e_eT ?e_tyT ?e_dT ?e_scT ?e_w ?e_s ?kcw ?kct ?kcs ?ktw ?ktc ?e_icC ?e_icT ?e_haC ?e_haT ?e_hmC ?e_hmT ?icn ?ict ?n_DIGITS ?n_MOST_DIGITS ?n_GREATEST_SUM ?n_MOST_CREWS ?n_LAST_CREW ?n_LAST_STATION ?n_MOST_MOVES ?n_EMPTY ?z_abs ?z_all ?z_bool ?z_enumerate ?z_int ?z_isinstance ?z_len ?z_list ?z_max ?z_min ?z_range ?z_repr ?z_set ?z_str ?z_sum ?z_tuple
    (case axC => k_is)
    (case a_is_whole => k_is)
    (case l_is_whole => k_is)
    (case c_is_whole => k_is)
    (case k_is_whole => k_is)
    (case a_is_whole_within => k_is)
    (case l_is_whole_within => k_is)
    (case c_is_whole_within => k_is)
    (case k_is_whole_within => k_is)
    (case a_is_sequence => k_is)
    (case l_is_sequence => k_is)
    (case c_is_sequence => k_is)
    (case k_is_sequence => k_is)
    (case a_is_digit => k_is)
    (case l_is_digit => k_is)
    (case c_is_digit => k_is)
    (case k_is_digit => k_is)
    (case a_is_number => k_is)
    (case l_is_number => k_is)
    (case c_is_number => k_is)
    (case k_is_number => k_is)
    (case a_is_station => k_is)
    (case l_is_station => k_is)
    (case c_is_station => k_is)
    (case k_is_station => k_is)
    (case a_is_crew => k_is)
    (case l_is_crew => k_is)
    (case c_is_crew => k_is)
    (case k_is_crew => k_is)
    (case a_is_stations => k_is)
    (case l_is_stations => k_is)
    (case c_is_stations => k_is)
    (case k_is_stations => k_is)
    (case a_is_order => k_is)
    (case l_is_order => k_is)
    (case c_is_order => k_is)
    (case k_is_order => k_is)
    (case a_are_counts => k_is)
    (case l_are_counts => k_is)
    (case c_are_counts => k_is)
    (case k_are_counts => k_is)
    (case a_is_move => k_is)
    (case l_is_move => k_is)
    (case c_is_move => k_is)
    (case k_is_move => k_is)
    (case a_are_moves => k_is)
    (case l_are_moves => k_is)
    (case c_are_moves => k_is)
    (case k_are_moves => k_is)
    (case a_cinit => k_is)
    (case i_cinit => k_is)
    (case l_cinit => k_is)
    (case c_cinit => k_is)
    (case k_cinit => k_is)
    (case e_owed => k_is)
    (case e_moves => k_is)
    (case w_O => k_is)
    (case w_M => k_is)
    (case a_joined => k_is)
    (case l_joined => k_is)
    (case c_joined => k_is)
    (case k_joined => k_is)
    (case a_card_text => k_is)
    (case l_card_text => k_is)
    (case c_card_text => k_is)
    (case k_card_text => k_is)
    (case a_digits_in => k_is)
    (case l_digits_in => k_is)
    (case c_digits_in => k_is)
    (case k_digits_in => k_is)
    (case a_read_card => k_is)
    (case l_read_card => k_is)
    (case c_read_card => k_is)
    (case k_read_card => k_is)
    (case a_bag => k_is)
    (case l_bag => k_is)
    (case c_bag => k_is)
    (case k_bag => k_is)
    (case a_take => k_is)
    (case l_take => k_is)
    (case c_take => k_is)
    (case k_take => k_is)
    (case a_of => k_is)
    (case l_of => k_is)
    (case c_of => k_is)
    (case k_of => k_is)
    (case a_number => k_is)
    (case l_number => k_is)
    (case c_number => k_is)
    (case k_number => k_is)
    (case a_lis_whole => k_is)
    (case l_lis_whole => k_is)
    (case c_lis_whole => k_is)
    (case k_lis_whole => k_is)
    (case a_is_row => k_is)
    (case l_is_row => k_is)
    (case c_is_row => k_is)
    (case k_is_row => k_is)
    (case a_lis_number => k_is)
    (case l_lis_number => k_is)
    (case c_lis_number => k_is)
    (case k_lis_number => k_is)
    (case a_is_pair => k_is)
    (case l_is_pair => k_is)
    (case c_is_pair => k_is)
    (case k_is_pair => k_is)
    (case a_fault => k_is)
    (case l_fault => k_is)
    (case c_fault => k_is)
    (case k_fault => k_is)
    (case a_as => k_is)
    (case l_as => k_is)
    (case c_as => k_is)
    (case k_as => k_is)
    (case a_parts => k_is)
    (case l_parts => k_is)
    (case c_parts => k_is)
    (case k_parts => k_is)
    (case a_odd => k_is)
    (case l_odd => k_is)
    (case c_odd => k_is)
    (case k_odd => k_is)
    (case a_line => k_is)
    (case l_line => k_is)
    (case c_line => k_is)
    (case k_line => k_is)
    (case a_figures => k_is)
    (case l_figures => k_is)
    (case c_figures => k_is)
    (case k_figures => k_is)
    (case a_read => k_is)
    (case l_read => k_is)
    (case c_read => k_is)
    (case k_read => k_is)
    (case a_bent => k_is)
    (case l_bent => k_is)
    (case c_bent => k_is)
    (case k_bent => k_is)
    (case a_shown => k_is)
    (case l_shown => k_is)
    (case c_shown => k_is)
    (case k_shown => k_is)
    (case a_plain => k_is)
    (case l_plain => k_is)
    (case c_plain => k_is)
    (case k_plain => k_is)
    (case a_tried => k_is)
    (case l_tried => k_is)
    (case c_tried => k_is)
    (case k_tried => k_is)
    (case a_read_tried => k_is)
    (case l_read_tried => k_is)
    (case c_read_tried => k_is)
    (case k_read_tried => k_is)
    (case a_kept => k_is)
    (case l_kept => k_is)
    (case c_kept => k_is)
    (case k_kept => k_is)
    (case a_law => k_is)
    (case l_law => k_is)
    (case c_law => k_is)
    (case k_law => k_is)
    (case pgQ => k_is)
    (case hdQ => k_is)
    (case poQ => k_is)
    (case saQ => k_is)
    (case mkQ => k_is)
    (case kcQ => k_is)
    (case nNu => k_is)
    (case nOr => k_is)
    (case nCo => k_is)
    (case nOw => k_is)
    (case nMo => k_is)
    (case rdQ => k_is)
    (case gaQ => k_is)
    (case vG => k_is)
    (case e_aC => k_is)
    (case e_xC => k_is)
    (case e_bC => decide +kernel)
    (case e_sC => k_is)
    (case e_gC => k_is)
    (case e_hC => k_is)
    (case e_nC => k_is)
    (case e_iC => k_is)
    (case e_tC => k_is)
    (case e_lC => k_is)
    (case e_cC => k_is)
    (case e_kC => k_is)
    (case e_eC => k_is)
    (case e_tyC => k_is)
    (case e_dC => k_is)
    (case e_scC => first | rfl | k_is)
    (case e_aT => k_is)
    (case e_xT => k_is)
    (case e_bT => decide +kernel)
    (case e_sT => k_is)
    (case e_gT => k_is)
    (case e_hT => k_is)
    (case e_nT => k_is)
    (case e_iT => k_is)
    (case e_tT => k_is)
    (case e_lT => k_is)
    (case e_cT => k_is)
    (case e_kT => k_is)
    (case e_eT => k_is)
    (case e_tyT => k_is)
    (case e_dT => k_is)
    (case e_scT => first | rfl | k_is)
    (case e_w => k_is)
    (case e_s => k_is)
    (case kcw => first | k_is | kit_is | (decide +kernel))
    (case kct => first | k_is | kit_is | (decide +kernel))
    (case kcs => first | k_is | kit_is | (decide +kernel))
    (case ktw => first | k_is | kit_is | (decide +kernel))
    (case ktc => first | k_is | kit_is | (decide +kernel))
    (case e_icC => k_is)
    (case e_icT => k_is)
    (case e_haC => k_is)
    (case e_haT => k_is)
    (case e_hmC => k_is)
    (case e_hmT => k_is)
    (case icn => k_is)
    (case ict => k_is)
    (case n_DIGITS => k_is)
    (case n_MOST_DIGITS => k_is)
    (case n_GREATEST_SUM => k_is)
    (case n_MOST_CREWS => k_is)
    (case n_LAST_CREW => k_is)
    (case n_LAST_STATION => k_is)
    (case n_MOST_MOVES => k_is)
    (case n_EMPTY => k_is)
    (case z_abs => k_is)
    (case z_all => k_is)
    (case z_bool => k_is)
    (case z_enumerate => k_is)
    (case z_int => k_is)
    (case z_isinstance => k_is)
    (case z_len => k_is)
    (case z_list => k_is)
    (case z_max => k_is)
    (case z_min => k_is)
    (case z_range => k_is)
    (case z_repr => k_is)
    (case z_set => k_is)
    (case z_str => k_is)
    (case z_sum => k_is)
    (case z_tuple => k_is)
