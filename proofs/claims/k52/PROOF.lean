import PyProof.Rows.All
import Wide.All
import OpenK.AllK
import Wide.FinOn
import HandS.ForMost
import HandS.SlotsOwn
import HandS.Wide
import HandS.IsInst
import HandS.Style
import HandS.Zip
import HandS.Walk
import HandS.Exc
import HandS.TryOnly
import HandS.ExcOwn
import HandS.WordsExc
import HandS.ExcIs
import KE.OsGo
import HandS.Codes
import HandS.Text
import KE.IntTextLaws
import KE.KExcIs
import KE.DataEq
import KE.KTupSum
import HandS.Defaults
import HandS.MakeKw
import HandS.MakeKwOnly
import HandS.ClsMeth
import HandS.Strs
import KE.GoesMore
import HandS.TupAny
import HandS.TupMul
import HandS.TryMany
import HandS.ExcCtx
import HandS.TupSets
import HandS.SetFor
import HandS.OwnIter
import HandS.IterVal
import PyProof.Rows.SortShellAny
import HandS.SortInts
import KE.KOpsOwn
import PyProof.Rows.RegReprOcc
import HandS.GenList
import HandS.Conv
import PyProof.ListStr
import PyProof.P3In
import HandS.ExcInit
import HandS.RaiseFrom
import HandS.HotCalls
import HandS.More
import HandS.Dict
import PyProof.ReprRoads
import PyProof.EqKinds
import PyProof.NeKinds
import HandS.Comp
import HandS.TupLe
import HandS.Sort
import HandS.Star
import HandS.Iter
import PySem.Challenge.RW_wheelchorus_k52_panels_beat_by_beat
import HandS.WideBits
set_option Elab.async false
set_option linter.all false
set_option maxRecDepth 100000
set_option maxHeartbeats 4000000
/-! Numbers as lists of digits, their rows, and where two rows part. -/
namespace Wm
open PySem L2
def codes (ds : List Nat) : List Nat := ds.map (· + 48)
def numS (ds : List Nat) : Str := ⟨(codes ds).toArray⟩
structure Dig (ds : List Nat) : Prop where
  dig : ∀ d ∈ ds, 1 ≤ d ∧ d ≤ 9
structure Num (ds : List Nat) : Prop where
  pos : 1 ≤ ds.length
  len : ds.length ≤ 4
  dig : ∀ d ∈ ds, 1 ≤ d ∧ d ≤ 9
  sum : ds.sum ≤ 24
def blk (d : Nat) : List Int := (List.replicate d [1, 0]).flatten
def rowL : List Nat → List Int
  | [] => [0, 0]
  | d :: ds => blk d ++ ([0, 0] ++ rowL ds)
structure Diff (xs ys : List Int) (k : Nat) (a b : Int) : Prop where
  one : xs[k]? = some a
  two : ys[k]? = some b
  ne : a ≠ b
  eq : ∀ j, j < k → xs[j]? = ys[j]?
theorem Diff.symm {xs ys : List Int} {k : Nat} {a b : Int} (h : Diff xs ys k a b) : Diff ys xs k b a :=
  ⟨h.two, h.one, h.ne.symm, fun j l => (h.eq j l).symm⟩
theorem Diff.cons {xs ys : List Int} {k : Nat} {a b : Int} (z : Int) (h : Diff xs ys k a b) : Diff (z :: xs) (z :: ys) (k + 1) a b := by
  refine ⟨by simpa using h.one, by simpa using h.two, h.ne, fun j l => ?_⟩
  cases j with
  | zero => rfl
  | succ j => simpa using h.eq j (by omega)
theorem Diff.app {xs ys : List Int} {k : Nat} {a b : Int} : ∀ (p : List Int), Diff xs ys k a b → Diff (p ++ xs) (p ++ ys) (p.length + k) a b
  | [], h => by simpa using h
  | z :: p, h => by
    have ih := (Diff.app p h).cons z
    have e : (z :: p).length + k = p.length + k + 1 := by simp only [List.length_cons]; omega
    rw [e]
    exact ih
theorem Diff.uniq {xs ys : List Int} {k l : Nat} {a b c d : Int} (h : Diff xs ys k a b) (g : Diff xs ys l c d) : k = l ∧ a = c ∧ b = d := by
  have e : k = l := by
    rcases Nat.lt_trichotomy k l with x | x | x
    · exact absurd (by have q := g.eq k x; rw [h.one, h.two] at q; exact Option.some.inj q) h.ne
    · exact x
    · exact absurd (by have q := h.eq l x; rw [g.one, g.two] at q; exact Option.some.inj q) g.ne
  subst e
  exact ⟨rfl, Option.some.inj (h.one.symm.trans g.one), Option.some.inj (h.two.symm.trans g.two)⟩
theorem Diff.lt1 {xs ys : List Int} {k : Nat} {a b : Int} (h : Diff xs ys k a b) : k < xs.length := (List.getElem?_eq_some_iff.mp h.one).1
theorem Diff.lt2 {xs ys : List Int} {k : Nat} {a b : Int} (h : Diff xs ys k a b) : k < ys.length := (List.getElem?_eq_some_iff.mp h.two).1
theorem blk_add (d e : Nat) : blk (d + e) = blk d ++ blk e := by
  unfold blk
  rw [← List.replicate_append_replicate, List.flatten_append]
theorem blk_succ (e : Nat) : blk (e + 1) = [1, 0] ++ blk e := by
  rw [Nat.add_comm, blk_add]
  rfl
theorem blk_len (d : Nat) : (blk d).length = 2 * d := by
  induction d with
  | zero => rfl
  | succ d ih => rw [blk_succ, List.length_append, ih]; simp only [List.length_cons, List.length_nil]; omega
theorem row_less (d e : Nat) (ds es : List Nat) (h : d < e) : Diff (rowL (d :: ds)) (rowL (e :: es)) (2 * d) 0 1 := by
  obtain ⟨f, rfl⟩ : ∃ f, e = d + (f + 1) := ⟨e - d - 1, by omega⟩
  have h0 : Diff ([0, 0] ++ rowL ds) ([1, 0] ++ (blk f ++ ([0, 0] ++ rowL es))) 0 0 1 := ⟨rfl, rfl, by decide, fun j l => absurd l (Nat.not_lt_zero _)⟩
  have h1 := h0.app (blk d)
  rw [blk_len, Nat.add_zero] at h1
  have e1 : rowL ((d + (f + 1)) :: es) = blk d ++ ([1, 0] ++ (blk f ++ ([0, 0] ++ rowL es))) := by
    show blk (d + (f + 1)) ++ _ = _
    rw [blk_add, blk_succ, List.append_assoc, List.append_assoc]
  rw [e1]
  exact h1
theorem rows_part : ∀ (ds es : List Nat), (∀ d ∈ ds, 1 ≤ d) → (∀ e ∈ es, 1 ≤ e) →
    ds = es ∨ (∃ k, Diff (rowL ds) (rowL es) k 1 0 ∧ es < ds) ∨ (∃ k, Diff (rowL ds) (rowL es) k 0 1 ∧ ds < es)
  | [], [], _, _ => .inl rfl
  | [], e :: es, _, h => by
    obtain ⟨f, rfl⟩ : ∃ f, e = f + 1 := ⟨e - 1, by have := h e (by simp); omega⟩
    refine .inr (.inr ⟨0, ⟨rfl, ?_, by decide, fun j l => absurd l (Nat.not_lt_zero _)⟩, List.nil_lt_cons _ _⟩)
    show (blk (f + 1) ++ _)[0]? = _
    rw [blk_succ]
    rfl
  | d :: ds, [], h, _ => by
    obtain ⟨f, rfl⟩ : ∃ f, d = f + 1 := ⟨d - 1, by have := h d (by simp); omega⟩
    refine .inr (.inl ⟨0, ⟨?_, rfl, by decide, fun j l => absurd l (Nat.not_lt_zero _)⟩, List.nil_lt_cons _ _⟩)
    show (blk (f + 1) ++ _)[0]? = _
    rw [blk_succ]
    rfl
  | d :: ds, e :: es, h, g => by
    rcases Nat.lt_trichotomy d e with x | x | x
    · exact .inr (.inr ⟨_, row_less d e ds es x, List.cons_lt_cons_iff.mpr (.inl x)⟩)
    · subst x
      rcases rows_part ds es (fun y m => h y (List.mem_cons_of_mem _ m)) (fun y m => g y (List.mem_cons_of_mem _ m)) with q | ⟨k, q, l⟩ | ⟨k, q, l⟩
      · exact .inl (by rw [q])
      · exact .inr (.inl ⟨_, (q.app [0, 0]).app (blk d), List.cons_lt_cons_iff.mpr (.inr ⟨rfl, l⟩)⟩)
      · exact .inr (.inr ⟨_, (q.app [0, 0]).app (blk d), List.cons_lt_cons_iff.mpr (.inr ⟨rfl, l⟩)⟩)
    · exact .inr (.inl ⟨_, (row_less e d es ds x).symm, List.cons_lt_cons_iff.mpr (.inl x)⟩)
theorem codes_lt : ∀ (ds es : List Nat), ds < es → codes ds < codes es
  | [], [], h => absurd h (List.lt_irrefl _)
  | [], _ :: _, _ => List.nil_lt_cons _ _
  | _ :: _, [], h => absurd h (List.not_lt_nil _)
  | d :: ds, e :: es, h => by
    rcases List.cons_lt_cons_iff.mp h with x | ⟨x, y⟩
    · exact List.cons_lt_cons_iff.mpr (.inl (Nat.add_lt_add_right x 48))
    · exact List.cons_lt_cons_iff.mpr (.inr ⟨by rw [x], codes_lt ds es y⟩)
theorem codes_inj : ∀ (ds es : List Nat), codes ds = codes es → ds = es
  | [], [], _ => rfl
  | [], _ :: _, h => by simp [codes] at h
  | _ :: _, [], h => by simp [codes] at h
  | d :: ds, e :: es, h => by
    have h1 : d + 48 = e + 48 := (List.cons.inj h).1
    have h2 : codes ds = codes es := (List.cons.inj h).2
    rw [codes_inj ds es h2, show d = e by omega]
theorem numS_cps (ds : List Nat) : (numS ds).cps.toList = codes ds := rfl
theorem numS_inj {ds es : List Nat} (h : numS ds = numS es) : ds = es := codes_inj _ _ (by rw [← numS_cps, h, numS_cps])
theorem numS_len (ds : List Nat) : (numS ds).length = ds.length := by
  show (codes ds).toArray.size = _
  simp [codes]
theorem lt_asymm' {a b : List Nat} (h : a < b) : ¬ b < a := fun g => List.lt_irrefl _ (List.lt_trans h g)
theorem rowL_le : ∀ ds : List Nat, (∀ d ∈ ds, d ≤ 9) → (rowL ds).length ≤ 20 * ds.length + 2
  | [], _ => by decide
  | d :: ds, h => by
    have ih := rowL_le ds fun y m => h y (List.mem_cons_of_mem _ m)
    have hd := h d (by simp)
    show (blk d ++ ([0, 0] ++ rowL ds)).length ≤ _
    rw [List.length_append, List.length_append, blk_len]
    simp only [List.length_cons, List.length_nil]
    omega
end Wm

/-! Digits as signs, texts of digits cut and joined; what a heap keeps. -/
namespace Wm
open PySem L2
theorem dig_cases {d : Nat} (h : 1 ≤ d ∧ d ≤ 9) : d = 1 ∨ d = 2 ∨ d = 3 ∨ d = 4 ∨ d = 5 ∨ d = 6 ∨ d = 7 ∨ d = 8 ∨ d = 9 := by omega
theorem dig_int {d : Nat} (h : 1 ≤ d ∧ d ≤ 9) : PySem.intText? ⟨#[d + 48]⟩ = some (d : Int) := by
  rcases dig_cases h with e | e | e | e | e | e | e | e | e <;> subst e <;> decide +kernel
theorem dig_in {d : Nat} (h : 1 ≤ d ∧ d ≤ 9) : (d + 48) ∈ ("123456789" : Str).cps.toList := by
  rcases dig_cases h with e | e | e | e | e | e | e | e | e <;> subst e <;> decide +kernel
theorem dig_str {d : Nat} (h : 1 ≤ d ∧ d ≤ 9) : ((toString (d : Int) : String) : Str) = numS [d] := by
  rcases dig_cases h with e | e | e | e | e | e | e | e | e <;> subst e <;> decide +kernel
theorem numS_app (ds es : List Nat) : numS ds ++ numS es = numS (ds ++ es) := by
  refine PyProof.Rows.ext_toList ?_
  show ((numS ds).cps ++ (numS es).cps).toList = _
  rw [Array.toList_append, numS_cps, numS_cps, numS_cps]
  simp [codes]
theorem numS_nil : numS [] = ("" : Str) := by decide +kernel
theorem numS_take (ds : List Nat) (k : Nat) : cutS (numS ds) none (some (k : Int)) = numS (ds.take k) := by
  refine PyProof.Rows.ext_toList ?_
  show ((codes ds).drop 0).take (HT.sIx (numS ds).length (numS ds).length (some (k : Int)) - 0) = codes (ds.take k)
  rw [numS_len, HT.sIx_nat, List.drop_zero, Nat.sub_zero]
  simp only [codes, ← List.map_take]
  congr 1
  rw [List.take_eq_take_iff]
  omega
theorem numS_last (ds : List Nat) : cutS (numS ds) none (some (-1)) = numS ds.dropLast := by
  refine PyProof.Rows.ext_toList ?_
  show ((codes ds).drop 0).take (HT.sIx (numS ds).length (numS ds).length (some (-1)) - 0) = codes ds.dropLast
  rw [numS_len, List.drop_zero, Nat.sub_zero, List.dropLast_eq_take]
  simp only [codes, ← List.map_take]
  have e : HT.sIx ds.length ds.length (some (-1)) = ds.length - 1 := by
    unfold HT.sIx
    simp only [show (-1 : Int) < 0 by decide, if_true]
    omega
  rw [e]
theorem numS_at (ds : List Nat) (i : Nat) (hi : i < ds.length) : (numS ds).cps[i]? = some (ds[i] + 48) := by
  show ((codes ds).toArray)[i]? = _
  simp [codes, hi]
theorem numS_size (ds : List Nat) : (numS ds).cps.size = ds.length := numS_len ds

/-! heaps -/
theorem same_new {H : Hp} {p : Addr} {o : HO} (n : H p = none) : Same H (upd H p o) := fun b u e => by
  rw [upd_ne (ne_of_none e n)]
  exact e
theorem at_old {H : Hp} {p q : Addr} {o u : HO} (h : H p = some o) (n : H q = none) : upd H q u p = some o := by
  rw [upd_ne (ne_of_none h n)]
  exact h
theorem sameT {K : PySem.W.Frag} {H H' : Hp} {a : Addr} {xs : List V} (e : Same H H') (h : SqT K H a xs) : SqT K H' a xs := by
  rcases h with (h | ⟨o, h⟩) | h
  · exact .inl (.inl (e _ _ h))
  · exact .inl (.inr ⟨o, e _ _ h⟩)
  · exact .inr h
/-- what stood stands, but for what H did not know and the object at p, which is new since -/
theorem same_mut {H H' : Hp} {p : Addr} {o : HO} (s : Same H H') (n : H p = none) : Same H (upd H' p o) := fun b u e => by
  rw [upd_ne (ne_of_none e n)]
  exact s b u e
/-- the bag's list at b, its cells at c -/
def Cel (H : Hp) (b c : Addr) : Prop := ∃ x k m z : Int, H b = some (.lst [.int x, .ref c, .int k, .int m, .int z])
structure But (b : Addr) (H H' : Hp) : Prop where
  keep : ∀ p o, p ≠ b → H p = some o → H' p = some o
  cel : ∀ c, Cel H b c → Cel H' b c
instance {b : Addr} {H H' : Hp} : CoeFun (But b H H') (fun _ => ∀ p o, p ≠ b → H p = some o → H' p = some o) := ⟨But.keep⟩
theorem But.refl (b : Addr) (H : Hp) : But b H H := ⟨fun _ _ _ h => h, fun _ h => h⟩
theorem But.trans {b : Addr} {H H1 H2 : Hp} (x : But b H H1) (y : But b H1 H2) : But b H H2 := ⟨fun p o n h => y.keep p o n (x.keep p o n h), fun c h => y.cel c (x.cel c h)⟩
theorem But.of {b : Addr} {H H' : Hp} (s : Same H H') : But b H H' := ⟨fun p o _ h => s p o h, fun _ ⟨x, k, m, z, h⟩ => ⟨x, k, m, z, s _ _ h⟩⟩
theorem But.set {b c : Addr} {H : Hp} {x k m z x' k' m' z' : Int} (hb : H b = some (.lst [.int x, .ref c, .int k, .int m, .int z])) : But b H (upd H b (.lst [.int x', .ref c, .int k', .int m', .int z'])) :=
  ⟨fun p u n h => by
    rw [upd_ne n]
    exact h, fun c2 ⟨a1, a2, a3, a4, h⟩ => by
    rw [hb] at h
    have h := Option.some.inj h
    injection h with h
    injection h with h1 h
    injection h with h2 h
    injection h2 with h2
    subst h2
    exact ⟨x', k', m', z', upd_same⟩⟩
/-- the bag of draws: its cells' list and its four numbers -/
def Bag (H : Hp) (b : Addr) (n : Nat) : Prop :=
  ∃ (c : Addr) (x k m z : Int) (ns : List Int), H b = some (.lst [.int x, .ref c, .int k, .int m, .int z]) ∧ H c = some (.lst (ns.map V.int)) ∧ 0 ≤ k ∧ 0 ≤ m ∧ m ≤ (n : Int)
theorem bag_ne {H : Hp} {b c : Addr} {x k m z : Int} {ns : List Int} (hb : H b = some (.lst [.int x, .ref c, .int k, .int m, .int z])) (hc : H c = some (.lst (ns.map V.int))) : c ≠ b := by
  intro e
  subst e
  rw [hb] at hc
  have q := Option.some.inj hc
  have q2 : ([.int x, .ref c, .int k, .int m, .int z] : List V) = ns.map V.int := by injection q
  cases ns with
  | nil => simp at q2
  | cons u r => cases r with
    | nil => simp at q2
    | cons v r => simp at q2
theorem Bag.mono {H : Hp} {b : Addr} {n m : Nat} (h : Bag H b n) (l : n ≤ m) : Bag H b m := by
  obtain ⟨c, x, k, q, z, ns, h1, h2, h3, h4, h5⟩ := h
  exact ⟨c, x, k, q, z, ns, h1, h2, h3, h4, by omega⟩
theorem Bag.keep {H H' : Hp} {b : Addr} {n : Nat} (h : Bag H b n) (s : Same H H') : Bag H' b n := by
  obtain ⟨c, x, k, q, z, ns, h1, h2, h3, h4, h5⟩ := h
  exact ⟨c, x, k, q, z, ns, s _ _ h1, s _ _ h2, h3, h4, h5⟩
theorem Cel.uniq {H : Hp} {b c d : Addr} (h : Cel H b c) (g : Cel H b d) : c = d := by
  obtain ⟨x, k, m, z, h⟩ := h
  obtain ⟨x', k', m', z', g⟩ := g
  rw [h] at g
  have g := Option.some.inj g
  injection g with g
  injection g with g1 g
  injection g with g2 g
  injection g2
theorem But.put {b D : Addr} {H H' : Hp} {o : HO} (e : But b H H') (n : H D = none) : But b H (upd H' D o) := by
  refine ⟨fun p u pb h => ?_, fun c h => ?_⟩
  · rw [upd_ne (ne_of_none h n)]
    exact e.keep p u pb h
  · have h0 := h
    obtain ⟨x, k, m, z, h⟩ := h
    obtain ⟨x', k', m', z', g⟩ := e.cel c h0
    exact ⟨x', k', m', z', by rw [upd_ne (ne_of_none h n)]; exact g⟩
theorem Bag.put {b D : Addr} {H H' : Hp} {o : HO} {n m : Nat} (bag : Bag H b n) (f : H D = none) (e : But b H H') (bag2 : Bag H' b m) : Bag (upd H' D o) b m := by
  obtain ⟨c, x, k, q, z, ns, h1, h2, h3, h4, h5⟩ := bag
  obtain ⟨c', x', k', q', z', ns', g1, g2, g3, g4, g5⟩ := bag2
  have ec : c = c' := Cel.uniq (e.cel c ⟨x, k, q, z, h1⟩) ⟨x', k', q', z', g1⟩
  subst ec
  exact ⟨c, x', k', q', z', ns', by rw [upd_ne (ne_of_none h1 f)]; exact g1, by rw [upd_ne (ne_of_none h2 f)]; exact g2, g3, g4, g5⟩
end Wm
namespace Wm
open PySem L2
theorem yesT {σ : L2.St} {H : Hp} {A B : Hp → Prop} (h : A H) : tYes σ H (fun b H3 => if b = true then A H3 else B H3) := by
  show (if true = true then A H else B H)
  rw [if_pos rfl]
  exact h
end Wm

/-! row[::2] of a list or a tuple; a loop over a list or a tuple. -/
namespace Hf
open PySem PySem.Spec PyProof.Rows L2
def ev2 {α : Type} : List α → List α
  | [] => []
  | [x] => [x]
  | x :: _ :: r => x :: ev2 r
theorem ev2_le {α : Type} : ∀ xs : List α, (ev2 xs).length ≤ xs.length
  | [] => Nat.le_refl _
  | [_] => Nat.le_refl _
  | x :: y :: r => by
    have ih := ev2_le r
    show (ev2 r).length + 1 ≤ r.length + 2
    omega
theorem ev2_mem {α : Type} {z : α} : ∀ {xs : List α}, z ∈ ev2 xs → z ∈ xs
  | [], h => h
  | [_], h => h
  | x :: y :: r, h => by
    rcases List.mem_cons.mp h with e | e
    · rw [e]; simp
    · exact List.mem_cons_of_mem _ (List.mem_cons_of_mem _ (ev2_mem e))
theorem ev2_map {α β : Type} (f : α → β) : ∀ xs : List α, ev2 (xs.map f) = (ev2 xs).map f
  | [] => rfl
  | [_] => rfl
  | x :: y :: r => by
    show f x :: ev2 (r.map f) = f x :: (ev2 r).map f
    rw [ev2_map f r]
theorem ev2_pick {α : Type} : ∀ xs : List α, (List.range ((xs.length + 1) / 2)).filterMap (fun k => xs[2 * k]?) = ev2 xs
  | [] => by simp [ev2]
  | [x] => by
    rw [show ([x].length + 1) / 2 = 1 by simp, show List.range 1 = [0] by decide]
    simp [ev2]
  | x :: y :: r => by
    have ih := ev2_pick r
    have e : ((x :: y :: r).length + 1) / 2 = (r.length + 1) / 2 + 1 := by
      show (r.length + 1 + 1 + 1) / 2 = _
      omega
    rw [e, List.range_succ_eq_map, List.filterMap_cons]
    show x :: _ = x :: ev2 r
    rw [List.filterMap_map, ← ih]
    rfl
theorem ev2_vals : ∀ {xs : List V} {us : List Value}, Vals xs us → Vals (ev2 xs) (ev2 us)
  | [], _, h => by cases h; exact .nil
  | [x], _, h => by
    cases h with
    | cons a b =>
      cases b
      exact .cons a .nil
  | x :: y :: r, _, h => by
    cases h with
    | cons a b =>
      cases b with
      | cons c d => exact .cons a (ev2_vals d)
theorem pick2 (items : Array Value) : slicePick items none none (some 2) = (ev2 items.toList).toArray := by
  have e := ev2_pick items.toList
  unfold slicePick
  have b : sliceBounds none none (some 2) items.size = (0, (items.size : Int), 2) := by
    first
    | rfl
    | simp [sliceBounds]
  rw [b]
  show ((sliceRange 0 (items.size : Int) 2).filterMap (items[·]?)).toArray = _
  have r : sliceRange 0 (items.size : Int) 2 = (List.range ((items.size + 1) / 2)).map fun k => 2 * k := by
    unfold sliceRange
    have h1 : (2 : Int) > 0 := by decide
    by_cases h : (0 : Int) < (items.size : Int)
    · have e : ((items.size : Int) - 0 + 2 - 1) / 2 = (((items.size + 1) / 2 : Nat) : Int) := by omega
      simp only [h1, if_true, h, e, Int.toNat_natCast]
      apply List.map_congr_left
      intro k _
      omega
    · have e : items.size = 0 := by omega
      simp [e]
  rw [r, List.filterMap_map]
  rw [Array.length_toList] at e
  rw [← e]
  refine congrArg List.toArray (congrArg (fun f => List.filterMap f _) (funext fun k => ?_))
  show items[2 * k]? = _
  rw [Array.getElem?_toList]
section
variable {prog : Program} {w : World} {A : Around} {E : Value → Shared → Prop} {s : Shared}
theorem places2 (n : Nat) : Builtin.Slice.slicePlaces 0 (n : Int) 2 = (n + 1) / 2 := by
  unfold Builtin.Slice.slicePlaces
  have h1 : (2 : Int) > 0 := by omega
  simp only [h1, if_true]
  split <;> omega
theorem adjust2 (n : Nat) : Builtin.Slice.sliceAdjust none none 2 (n : Int) = (0, (n : Int)) := by
  have h1 : ¬ ((2 : Int) < 0) := by omega
  unfold Builtin.Slice.sliceAdjust
  simp only [h1, if_false]
theorem sliceApplied2 {sl : Addr} {t : Tok} {n : Nat} {Q : Int × Int × Nat → Shared → Prop} (hs : s.heap.IsSliceOf sl .none .none (.int 2 t))
    (h : Q (0, 2, (n + 1) / 2) s) : wpAny (model prog w) A (Builtin.Slice.sliceApplied (.ref sl) (pure (n : Int))) Q E s := by
  obtain ⟨os, hos, hcs, hds⟩ := id hs
  unfold Builtin.Slice.sliceApplied Builtin.Slice.sliceFields
  refine wpAny_bind (wpAny_bind (wpAny_field hos hds (x := .none) rfl (wpAny_bind (wpAny_field hos hds (x := .none) rfl (wpAny_bind (wpAny_field hos hds (x := .int 2 t) rfl (wpAny_pure ?_)))))))
  refine wpAny_bind (slicePart_int ?_)
  show wpAny _ _ (if ((2 : Int) == 0) = true then _ else _) _ _ s
  rw [if_neg (by decide)]
  refine wpAny_bind (HT.slicePart_ .none (wpAny_bind (HT.slicePart_ .none (wpAny_bind (wpAny_pure ?_)))))
  show wpAny _ _ (match Builtin.Slice.sliceAdjust none none 2 (n : Int) with | (lo, hi) => pure (lo, (2 : Int), Builtin.Slice.slicePlaces lo hi 2)) _ _ s
  rw [adjust2 n]
  show wpAny _ _ (pure ((0 : Int), (2 : Int), Builtin.Slice.slicePlaces (0 : Int) (n : Int) 2)) _ _ s
  rw [places2]
  exact wpAny_pure h
theorem pick2t (xs : Array Value) : ((List.range ((xs.size + 1) / 2)).filterMap fun (m : Nat) => xs[((0 : Int) + (m : Int) * 2).toNat]?).toArray = (ev2 xs.toList).toArray := by
  have e : (fun (m : Nat) => xs[((0 : Int) + (m : Int) * 2).toNat]?) = fun m => xs.toList[2 * m]? := by
    funext m
    have : ((0 : Int) + (m : Int) * 2).toNat = 2 * m := by omega
    rw [this, Array.getElem?_toList]
  rw [e, ← ev2_pick xs.toList, Array.length_toList]
theorem getItem_tuple_2 {t sl : Addr} {tk : Tok} {items : Array Value} {Q : Value → Shared → Prop} (ht : IsTup s.heap t items) (hs : s.heap.IsSliceOf sl .none .none (.int 2 tk))
    (h : Q (.ref s.heap.objs.size) { s with heap := s.heap.push { cls := .type "tuple", data := .seq (ev2 items.toList).toArray } })
    (hsz : items.size ≤ sizeLine) : wpAny (model prog w) A (getItem (.ref t) (.ref sl)) Q E s := by
  have htake : sizeOk (.seq (ev2 items.toList).toArray) := by
    show (ev2 items.toList).toArray.size ≤ sizeLine
    rw [List.size_toArray]
    exact Nat.le_trans (ev2_le items.toList) (by rw [Array.length_toList]; exact hsz)
  obtain ⟨os, hos, hcs, hds⟩ := id hs
  have hTs : s.TypeIs (.ref sl) "slice" := ⟨os, hos, hcs⟩
  unfold getItem
  try with_reducible refine wpAny_holding ?_
  first | refine wpAny_bind (wpAny_pure ?_) | skip
  refine wpAny_bind (wpAny_sequenceKey ht.typeIs (by decide) ?_)
  refine wpAny_bind (wpAny_callSpecial?_slot (name := Str.ofString "__getitem__") ht.typeIs PyProof.Rows.slot_tuple_getitem
    (wpAny_call_entry PyProof.Rows.slot_tuple_getitem ht.typeIs entry_tuple_getitem ?_ (args_tuple_getitem _ _)))
  show wpAny _ _ (Builtin.Tuple.tupleItemsOf (.ref t) >>= _) _ _ s
  refine wpAny_bind (tupleItemsOf_ ht ?_)
  refine wpAny_bind (wpAny_typeOf hTs ?_)
  rw [if_pos (by decide)]
  refine wpAny_bind (sliceApplied2 hs ?_)
  have hno : ¬ (((0 : Int) == 0 && (2 : Int) == 1 && ((items.size + 1) / 2) == items.size) = true) := by
    intro q
    rw [Bool.and_eq_true, Bool.and_eq_true] at q
    exact absurd q.1.2 (by decide)
  show wpAny _ _ (if ((0 : Int) == 0 && (2 : Int) == 1 && ((items.size + 1) / 2) == items.size) = true then _ else _) _ _ s
  rw [if_neg hno, pick2t]
  first
    | exact wpAny_bind (m := Builtin.Tuple.tupleExact _) (wpAny_newObj_type (wpAny_pure ⟨_, rfl, wpAny_pure h⟩) htake)
    | exact wpAny_bind (m := Builtin.Tuple.tupleExact _) (wpAny_newObj_type (wpAny_bind (wpAny_pure (wpAny_pure ⟨_, rfl, wpAny_pure h⟩))) htake)
    | exact wpAny_bind (wpAny_bind (m := Builtin.Tuple.tupleExact _) (wpAny_newObj_type (wpAny_pure (wpAny_pure ⟨_, rfl, wpAny_pure h⟩)) htake))
    | exact wpAny_bind (wpAny_bind (m := Builtin.Tuple.tupleExact _) (wpAny_newObj_type (wpAny_pure ⟨_, rfl, wpAny_pure h⟩) htake))
end
section
variable {X : Cx}
def tHalf (K : PySem.W.Frag) (te : TE) : TE := fun σ H Q => te σ H fun x H1 => ∃ a xs, x = .ref a ∧ (SqL K H1 a xs ∨ SqT K H1 a xs) ∧
  ∀ p H2, (∀ b o, H1 b = some o → H2 b = some o) → H1 p = none → (SqL K H2 p (ev2 xs) ∨ SqT K H2 p (ev2 xs)) → Q (.ref p) H2
theorem new_same {H : Hp} {p : Addr} {o : HO} (n : H p = none) : ∀ b u, H b = some u → upd H p o b = some u := fun b u e => by
  rw [upd_ne (ne_of_none e n)]
  exact e
theorem pe_half {e : Expr} {te : TE} {k : Nat} {p1 p3 pos : Pos} (he : PE X e te) : PE X (.Subscript e (.Slice none none (some (.Constant (.int 2) k p1)) p3) pos) (tHalf X.K te) := by
  refine ⟨fun pins s σ H Q I h => ?_⟩
  refine Subscript_ (thn (he.run pins s σ H _ I h) fun v s1 ⟨x, H1, I1, r1, q1⟩ => ?_)
  obtain ⟨a, xs, ex, hq, q⟩ := q1
  subst ex
  cases r1
  have hst : PO X (some (.Constant (.int 2) k p1)) (tPart (tC (.int 2))) := po_some pe_int
  refine wpAny_Slice (thn (po_none.run pins s1 σ H1 (fun o H2 => o = none ∧ H2 = H1) I1 ⟨rfl, rfl⟩) fun vl s2 ⟨l, H2, I2, pl, el, e2⟩ => ?_)
  subst el e2
  refine thn (po_none.run pins s2 σ H2 (fun o H3 => o = none ∧ H3 = H2) I2 ⟨rfl, rfl⟩) fun vu s3 ⟨u, H3, I3, pu, eu, e3⟩ => ?_
  subst eu e3
  refine thn (hst.run pins s3 σ H3 (fun o H4 => o = some 2 ∧ H4 = H3) I3 ⟨2, rfl, rfl, rfl⟩) fun vs s4 ⟨o, H4, I4, ps, eo, e4⟩ => ?_
  subst eo e4
  have I5 : Inv X pins σ H4 { s4 with heap := s4.heap.push { cls := .type "slice", data := .fields #[vl, vu, vs] } } := I4.kept (t' := s4.toks) fun b ob q => Heap.get?_push_of_some _ q
  rcases hq with hx | hx
  · obtain ⟨its, r, ht, hz⟩ := I5.list hx
    have hlen := r.length
    show wpAny (model X.prog X.w) X.A (subscriptTail e (.Slice none none (some (.Constant (.int 2) k p1)) p3) (.ref a) (.ref s4.heap.objs.size)) (EP X pins σ Q) X.xe { s4 with heap := s4.heap.push { cls := .type "slice", data := .fields #[vl, vu, vs] } }
    refine tail_any (ops := [.ref a, .ref s4.heap.objs.size]) ht.isList.typeIs (PySem.slot_list_getitem.lookup) ?_ (by with_unfolding_all rfl)
    refine wpAny_getItem_list_slice ht.isList (Heap.IsSliceOf.new _ vl vu vs) pl pu ps (by decide) ?_ (by rw [List.size_toArray]; omega)
    rw [pick2]
    refine ⟨.ref _, _, I5.laid (t' := s4.toks) (o := .lst (ev2 xs)) (fun b ob q => Heap.get?_push_of_some _ q) (Nat.le_refl _) ?_, rfl, q _ _ (new_same (I5.hok.fresh (Nat.le_refl _))) (I5.hok.fresh (Nat.le_refl _)) (.inl (SqL.of upd_same))⟩
    exact ⟨Nat.le_trans (ev2_le xs) hz, _, 0, ev2_vals r, Heap.get?_push_size _ rfl⟩
  · obtain ⟨its, r, ht, hz⟩ := I5.tuple hx
    have hlen := r.length
    cases pl
    cases pu
    cases ps
    show wpAny (model X.prog X.w) X.A (subscriptTail e (.Slice none none (some (.Constant (.int 2) k p1)) p3) (.ref a) (.ref s4.heap.objs.size)) (EP X pins σ Q) X.xe { s4 with heap := s4.heap.push { cls := .type "slice", data := .fields #[Value.none, Value.none, .int 2 _] } }
    refine tail_any (ops := [.ref a, .ref s4.heap.objs.size]) ht.typeIs (PyProof.Rows.slot_tuple_getitem.lookup) ?_ (by with_unfolding_all rfl)
    refine getItem_tuple_2 ht (Heap.IsSliceOf.new _ _ _ _) ?_ (by rw [List.size_toArray]; omega)
    refine ⟨.ref _, _, I5.laid (t' := s4.toks) (o := .tup (ev2 xs)) (fun b ob q => Heap.get?_push_of_some _ q) (Nat.le_refl _) ?_, rfl, q _ _ (new_same (I5.hok.fresh (Nat.le_refl _))) (I5.hok.fresh (Nat.le_refl _)) (.inr (SqT.of upd_same))⟩
    exact ⟨Nat.le_trans (ev2_le xs) hz, _, ev2_vals r, IsTup.new _ _⟩
theorem keepL {K : PySem.W.Frag} {H H' : Hp} {a : Addr} {xs : List V} (e : Same H H') (h : SqL K H a xs) : SqL K H' a xs := by
  rcases h with (h | ⟨o, h⟩) | h
  · exact .inl (.inl (e _ _ h))
  · exact .inl (.inr ⟨o, e _ _ h⟩)
  · exact .inr h
theorem keepT {K : PySem.W.Frag} {H H' : Hp} {a : Addr} {xs : List V} (e : Same H H') (h : SqT K H a xs) : SqT K H' a xs := by
  rcases h with (h | ⟨o, h⟩) | h
  · exact .inl (.inl (e _ _ h))
  · exact .inl (.inr ⟨o, e _ _ h⟩)
  · exact .inr h
def iSeq (K : PySem.W.Frag) (tl : TE) : TI := fun σ H R => tl σ H fun x H1 => ∃ a xs, x = .ref a ∧ (SqL K H1 a xs ∨ SqT K H1 a xs) ∧
  ∀ J G, Walk J xs.length G (YAt xs) → (∀ H', Same H1 H' → G H') → R J H1
theorem pi_seq {tg l : Expr} {tl : TE} (hl : PE X l tl) : PI X tg l (iSeq X.K tl) := by
  refine ⟨fun pins s σ H R I h => ?_⟩
  refine thn (hl.run pins s σ H _ I h) fun v s1 ⟨x, H1, I1, r1, q1⟩ => ?_
  obtain ⟨a, xs, e, hq, q⟩ := q1
  subst e
  cases r1
  rcases hq with hq | hq
  · have q := q _ _ walk_list fun H' s => keepL s hq
    obtain ⟨its, rv, p, hz⟩ := I1.list hq
    refine wpAny_pyIter_list p.isList ?_
    refine ⟨s1.heap.objs.size, [s1.heap.objs.size], _, _, H1, rfl, I1.kept (t' := s1.toks) fun b o e => Heap.get?_push_of_some _ e, turn_list a _, ⟨_, Heap.get?_push_size _ rfl, rfl, rfl⟩, fun b hb => ?_, q⟩
    have e : b = s1.heap.objs.size := by simpa using hb
    subst e
    exact I1.fpOk (Nat.le_refl _) (I1.hok.fresh (Nat.le_refl _))
  · have q := q _ _ walk_tup fun H' s => keepT s hq
    obtain ⟨its, rv, p, hz⟩ := I1.tuple hq
    refine wpAny_pyIter_tuple (show s1.heap.IsTuple a its.toArray from p) ?_
    refine ⟨s1.heap.objs.size, [s1.heap.objs.size], _, _, H1, rfl, I1.kept (t' := s1.toks) fun b o e => Heap.get?_push_of_some _ e, turn_tuple a _, ⟨_, Heap.get?_push_size _ rfl, rfl, rfl⟩, fun b hb => ?_, q⟩
    have e : b = s1.heap.objs.size := by simpa using hb
    subst e
    exact I1.fpOk (Nat.le_refl _) (I1.hok.fresh (Nat.le_refl _))
end
end Hf

/-! Rows read back: strokes, steps, groups. -/
namespace Wm
open PySem L2 TL
/-- the rows of the first digits, without the two ticks at the end -/
def pre : List Nat → List Int
  | [] => []
  | d :: ds => blk d ++ ([0, 0] ++ pre ds)
theorem pre_app : ∀ (ds : List Nat) (d : Nat), pre (ds ++ [d]) = pre ds ++ (blk d ++ [0, 0])
  | [], d => by show blk d ++ ([0, 0] ++ []) = [] ++ _; simp
  | e :: ds, d => by
    show blk e ++ ([0, 0] ++ pre (ds ++ [d])) = (blk e ++ ([0, 0] ++ pre ds)) ++ _
    rw [pre_app ds d]
    simp only [List.append_assoc]
theorem pre_row : ∀ ds : List Nat, pre ds ++ [0, 0] = rowL ds
  | [] => rfl
  | d :: ds => by
    show (blk d ++ ([0, 0] ++ pre ds)) ++ _ = blk d ++ ([0, 0] ++ rowL ds)
    rw [← pre_row ds]
    simp only [List.append_assoc]
theorem blk_V (d : Nat) : (List.replicate d [V.int 1, V.int 0]).flatten = (blk d).map V.int := by
  unfold blk
  rw [List.map_flatten, List.map_replicate]
  rfl
theorem pre_le : ∀ ds : List Nat, (∀ d ∈ ds, d ≤ 9) → (pre ds).length ≤ 20 * ds.length
  | [], _ => by decide
  | d :: ds, h => by
    have ih := pre_le ds fun y m => h y (List.mem_cons_of_mem _ m)
    have hd := h d (by simp)
    show (blk d ++ ([0, 0] ++ pre ds)).length ≤ _
    rw [List.length_append, List.length_append, blk_len]
    simp only [List.length_cons, List.length_nil]
    omega
theorem take_succ_app {α : Type} {l : List α} {i : Nat} {x : α} (h : l[i]? = some x) : l.take (i + 1) = l.take i ++ [x] := by
  rw [List.take_add_one, h]
  rfl
theorem take_succ_map {α β : Type} {l : List α} {i : Nat} {x : α} (f : α → β) (h : l[i]? = some x) : (l.take i).map f ++ [f x] = (l.take (i + 1)).map f := by
  rw [take_succ_app h, List.map_append]
  rfl
theorem row_sum : ∀ ds : List Nat, (rowL ds).length = 2 * (ds.sum + ds.length + 1)
  | [] => rfl
  | d :: ds => by
    have ih := row_sum ds
    show (blk d ++ ([0, 0] ++ rowL ds)).length = _
    rw [List.length_append, List.length_append, blk_len, ih, List.sum_cons]
    simp only [List.length_cons, List.length_nil]
    omega
theorem row_le (ds : List Nat) (N : Num ds) : (rowL ds).length ≤ 100 := by
  have h := rowL_le ds fun d m => (N.dig d m).2
  have l := N.len
  omega
theorem row_bits : ∀ (ds : List Nat) (z : Int), z ∈ rowL ds → z = 0 ∨ z = 1
  | [], z, h => by
    have h : z ∈ [0, 0] := h
    simp only [List.mem_cons, List.not_mem_nil, or_false, or_self] at h
    exact .inl h
  | d :: ds, z, h => by
    have h : z ∈ blk d ++ ([0, 0] ++ rowL ds) := h
    rw [List.mem_append, List.mem_append] at h
    rcases h with h | h | h
    · obtain ⟨l, hl, hz⟩ := List.mem_flatten.mp h
      rw [(List.mem_replicate.mp hl).2] at hz
      simp only [List.mem_cons, List.not_mem_nil, or_false] at hz
      exact hz.symm
    · simp only [List.mem_cons, List.not_mem_nil, or_false, or_self] at h
      exact .inl h
    · exact row_bits ds z h
/-! strokes -/
def ones : Nat → List Int → List Nat
  | _, [] => []
  | o, x :: xs => if x = 1 then o :: ones (o + 1) xs else ones (o + 1) xs
theorem ones_app : ∀ (a : List Int) (o : Nat) (b : List Int), ones o (a ++ b) = ones o a ++ ones (o + a.length) b
  | [], o, b => rfl
  | x :: a, o, b => by
    have ih := ones_app a (o + 1) b
    have e : o + (x :: a).length = o + 1 + a.length := by rw [List.length_cons]; omega
    rw [e]
    show (if x = 1 then o :: ones (o + 1) (a ++ b) else ones (o + 1) (a ++ b)) = (if x = 1 then o :: ones (o + 1) a else ones (o + 1) a) ++ _
    rw [ih]
    by_cases c : x = 1
    · rw [if_pos c, if_pos c]; rfl
    · rw [if_neg c, if_neg c]
theorem ones_mem : ∀ (xs : List Int) (o k : Nat), k ∈ ones o xs ↔ ∃ j, k = o + j ∧ xs[j]? = some 1
  | [], o, k => by simp [ones]
  | x :: xs, o, k => by
    have ih := ones_mem xs (o + 1) k
    show k ∈ (if x = 1 then o :: ones (o + 1) xs else ones (o + 1) xs) ↔ _
    constructor
    · intro h
      by_cases c : x = 1
      · rw [if_pos c] at h
        rcases List.mem_cons.mp h with e | e
        · exact ⟨0, by omega, by rw [c]; rfl⟩
        · obtain ⟨j, e1, e2⟩ := ih.mp e
          exact ⟨j + 1, by omega, by simpa using e2⟩
      · rw [if_neg c] at h
        obtain ⟨j, e1, e2⟩ := ih.mp h
        exact ⟨j + 1, by omega, by simpa using e2⟩
    · rintro ⟨j, e1, e2⟩
      cases j with
      | zero =>
        have c : x = 1 := Option.some.inj e2
        rw [if_pos c]
        exact List.mem_cons.mpr (.inl (by omega))
      | succ j =>
        have m : k ∈ ones (o + 1) xs := ih.mpr ⟨j, by omega, by simpa using e2⟩
        by_cases c : x = 1
        · rw [if_pos c]; exact List.mem_cons_of_mem _ m
        · rw [if_neg c]; exact m
theorem ones_blk (o d : Nat) : ones o (blk (d + 1)) = ones o (blk d) ++ [o + 2 * d] := by
  rw [blk_add, ones_app, blk_len]
  rfl
theorem ones_end (a : List Int) (o : Nat) : ones o (a ++ [0, 0]) = ones o a := by
  rw [ones_app]
  show ones o a ++ [] = _
  rw [List.append_nil]
theorem step2 (s : List Nat) (d : Nat) : ones 0 (pre s ++ blk (d + 1)) = ones 0 (pre s ++ blk d) ++ [(pre s).length + 2 * d] := by
  rw [ones_app, ones_app, ones_blk, List.append_assoc, Nat.zero_add]
theorem step4 (s : List Nat) (d : Nat) : ones 0 (pre (s ++ [d]) ++ blk 1) = ones 0 (pre s ++ blk d) ++ [(pre s).length + 2 * d + 2] := by
  rw [ones_app, pre_app, ← List.append_assoc, ones_end]
  have e : ((pre s ++ blk d) ++ ([0, 0] : List Int)).length = (pre s).length + 2 * d + 2 := by
    rw [List.length_append, List.length_append, blk_len]
    rfl
  rw [e, Nat.zero_add]
  rfl
theorem ones_row (s : List Nat) (d : Nat) : ones 0 (rowL (s ++ [d])) = ones 0 (pre s ++ blk d) := by
  rw [← pre_row, pre_app, ← List.append_assoc, ones_end, ones_end]
theorem ones_inj {ds es : List Nat} (h1 : ∀ d ∈ ds, 1 ≤ d) (h2 : ∀ e ∈ es, 1 ≤ e) (h : ones 0 (rowL ds) = ones 0 (rowL es)) : ds = es := by
  rcases rows_part ds es h1 h2 with q | ⟨k, q, _⟩ | ⟨k, q, _⟩
  · exact q
  · have m : k ∈ ones 0 (rowL ds) := (ones_mem _ _ _).mpr ⟨k, by omega, q.one⟩
    rw [h] at m
    obtain ⟨j, e1, e2⟩ := (ones_mem _ _ _).mp m
    rw [show j = k by omega, q.two] at e2
    cases e2
  · have m : k ∈ ones 0 (rowL es) := (ones_mem _ _ _).mpr ⟨k, by omega, q.two⟩
    rw [← h] at m
    obtain ⟨j, e1, e2⟩ := (ones_mem _ _ _).mp m
    rw [show j = k by omega, q.one] at e2
    cases e2
def St (l : List Nat) : Prop := ∀ (k a b : Nat), l[k]? = some a → l[k + 1]? = some b → b = a + 2 ∨ b = a + 4
theorem St.cons {x : Nat} {l : List Nat} (h : ∀ y, l.head? = some y → y = x + 2 ∨ y = x + 4) (s : St l) : St (x :: l) := by
  intro k a b e1 e2
  cases k with
  | zero =>
    have e : x = a := Option.some.inj e1
    subst e
    refine h b ?_
    rw [List.head?_eq_getElem?]
    exact e2
  | succ k => exact s k a b (by simpa using e1) (by simpa using e2)
theorem steps_blk {l : List Int} (hl : ∀ o, St (ones o l) ∧ ∀ y, (ones o l).head? = some y → y = o) : ∀ (d o : Nat), St (ones o (blk d ++ ([0, 0] ++ l))) ∧ ∀ y, (ones o (blk d ++ ([0, 0] ++ l))).head? = some y → (y = o ∨ y = o + 2)
  | 0, o => by
    have h := hl (o + 2)
    exact ⟨h.1, fun y e => .inr (h.2 y e)⟩
  | d + 1, o => by
    have ih := steps_blk hl d (o + 2)
    have e : ones o (blk (d + 1) ++ ([0, 0] ++ l)) = o :: ones (o + 2) (blk d ++ ([0, 0] ++ l)) := by
      rw [blk_succ]
      rfl
    rw [e]
    refine ⟨ih.1.cons fun y q => ?_, fun y q => .inl (Option.some.inj q).symm⟩
    rcases ih.2 y q with z | z
    · exact .inl z
    · exact .inr (by omega)
theorem steps_row : ∀ (es : List Nat), (∀ d ∈ es, 1 ≤ d) → ∀ o, St (ones o (rowL es)) ∧ ∀ y, (ones o (rowL es)).head? = some y → y = o
  | [], _, o => ⟨fun k a b (e : (none : Option Nat) = some a) => (by cases e), fun y (e : (none : Option Nat) = some y) => by cases e⟩
  | d :: es, h, o => by
    have ih := steps_row es fun y m => h y (List.mem_cons_of_mem _ m)
    obtain ⟨f, rfl⟩ : ∃ f, d = f + 1 := ⟨d - 1, by have := h d (by simp); omega⟩
    have q := steps_blk ih (f + 1) o
    refine ⟨q.1, fun y e => ?_⟩
    have e' : ones o (rowL ((f + 1) :: es)) = o :: ones (o + 2) (blk f ++ ([0, 0] ++ rowL es)) := by
      show ones o (blk (f + 1) ++ _) = _
      rw [blk_succ]
      rfl
    rw [e'] at e
    exact (Option.some.inj e).symm
theorem first_row (d : Nat) (es : List Nat) (h : 1 ≤ d) : (ones 0 (rowL (d :: es)))[0]? = some 0 := by
  obtain ⟨f, rfl⟩ : ∃ f, d = f + 1 := ⟨d - 1, by omega⟩
  show (ones 0 (blk (f + 1) ++ _))[0]? = _
  rw [blk_succ]
  rfl
/-! groups -/
def gaps : List Int → List Nat
  | [] => [0]
  | z :: zs => if z = 1 then (match gaps zs with | [] => [1] | g :: gs => (g + 1) :: gs) else 0 :: gaps zs
theorem gaps_ne : ∀ zs, gaps zs ≠ []
  | [] => by simp [gaps]
  | z :: zs => by
    show (if z = 1 then (match gaps zs with | [] => [1] | g :: gs => (g + 1) :: gs) else 0 :: gaps zs) ≠ []
    by_cases c : z = 1
    · rw [if_pos c]
      split <;> simp
    · rw [if_neg c]; simp
def bits (zs : List Int) : List Nat := zs.map fun z => if z = 1 then 49 else 48
theorem joinL_cons {s : List Nat} {p : List Nat} {ps : List (List Nat)} (h : ps ≠ []) : joinL s (p :: ps) = p ++ (s ++ joinL s ps) := by
  cases ps with
  | nil => exact absurd rfl h
  | cons q r => rfl
theorem joinL_one (s p : List Nat) : joinL s [p] = p := rfl
theorem map_ne {α β : Type} {f : α → β} {l : List α} (h : l ≠ []) : l.map f ≠ [] := fun e => h (List.map_eq_nil_iff.mp e)
theorem gaps_join : ∀ zs, bits zs = joinL [48] ((gaps zs).map fun g => List.replicate g 49)
  | [] => rfl
  | z :: zs => by
    have ih := gaps_join zs
    have ne := gaps_ne zs
    show (if z = 1 then 49 else 48) :: bits zs = joinL [48] ((if z = 1 then (match gaps zs with | [] => [1] | g :: gs => (g + 1) :: gs) else 0 :: gaps zs).map _)
    by_cases c : z = 1
    · rw [if_pos c, if_pos c]
      cases e : gaps zs with
      | nil => exact absurd e ne
      | cons g gs =>
        rw [e] at ih
        rw [ih]
        cases gs with
        | nil => rfl
        | cons g2 gs => rfl
    · rw [if_neg c, if_neg c, List.map_cons, joinL_cons (map_ne ne), ← ih]
      rfl
theorem gaps_sum : ∀ zs, (gaps zs).sum ≤ zs.length ∧ (gaps zs).length ≤ zs.length + 1
  | [] => by decide
  | z :: zs => by
    have ih := gaps_sum zs
    show (if z = 1 then (match gaps zs with | [] => [1] | g :: gs => (g + 1) :: gs) else 0 :: gaps zs).sum ≤ zs.length + 1 ∧ (if z = 1 then (match gaps zs with | [] => [1] | g :: gs => (g + 1) :: gs) else 0 :: gaps zs).length ≤ zs.length + 1 + 1
    by_cases c : z = 1
    · rw [if_pos c]
      cases e : gaps zs with
      | nil => exact absurd e (gaps_ne zs)
      | cons g gs =>
        rw [e, List.sum_cons, List.length_cons] at ih
        show ((g + 1) :: gs).sum ≤ _ ∧ ((g + 1) :: gs).length ≤ _
        rw [List.sum_cons, List.length_cons]
        omega
    · rw [if_neg c, List.sum_cons, List.length_cons]
      omega
theorem mem_sum {g : Nat} : ∀ {l : List Nat}, g ∈ l → g ≤ l.sum
  | a :: l, h => by
    rw [List.sum_cons]
    rcases List.mem_cons.mp h with e | e
    · omega
    · have := mem_sum e
      omega
theorem gaps_le {zs : List Int} {g : Nat} (h : g ∈ gaps zs) : g ≤ zs.length := by
  have h1 := (gaps_sum zs).1
  have h2 : g ≤ (gaps zs).sum := mem_sum h
  omega
theorem ev2_row : ∀ ds, Hf.ev2 (rowL ds) = (match ds with | [] => [0] | d :: r => List.replicate d 1 ++ (0 :: Hf.ev2 (rowL r)))
  | [] => rfl
  | d :: r => by
    show Hf.ev2 (blk d ++ ([0, 0] ++ rowL r)) = List.replicate d 1 ++ (0 :: Hf.ev2 (rowL r))
    induction d with
    | zero => rfl
    | succ d ih =>
      rw [blk_succ, List.replicate_succ]
      show (1 : Int) :: Hf.ev2 (blk d ++ ([0, 0] ++ rowL r)) = _
      rw [ih]
      rfl
theorem gaps_rep (l : List Int) (d : Nat) : gaps (List.replicate d 1 ++ (0 :: l)) = d :: gaps l := by
  induction d with
  | zero => rfl
  | succ d ih =>
    rw [List.replicate_succ]
    show (if (1 : Int) = 1 then (match gaps (List.replicate d 1 ++ (0 :: l)) with | [] => [1] | g :: gs => (g + 1) :: gs) else _) = _
    rw [if_pos rfl, ih]
theorem gaps_row : ∀ ds, gaps (Hf.ev2 (rowL ds)) = ds ++ [0, 0]
  | [] => rfl
  | d :: r => by
    rw [ev2_row]
    show gaps (List.replicate d 1 ++ (0 :: Hf.ev2 (rowL r))) = _
    rw [gaps_rep, gaps_row r]
    rfl
end Wm

/-! Ticks of bent rows as data. -/
namespace Wm
open PySem L2
inductive Tk : PyData → Prop
  | int {i : Int} : i.natAbs < 1000000 → Tk (.int i)
  | bl (b : Bool) : Tk (.bool b)
  | non : Tk .none
  | one : Tk (.str "1")
  | lst : Tk (.list [.int 0])
def Item (K : PySem.W.Frag) (H : Hp) (x : V) : Prop := ∃ d, Dp K H x d ∧ Tk d
theorem sqL_keep {K : PySem.W.Frag} {H H' : Hp} {a : Addr} {xs : List V} (e : Same H H') (h : SqL K H a xs) : SqL K H' a xs := by
  rcases h with (h | ⟨o, h⟩) | h
  · exact .inl (.inl (e _ _ h))
  · exact .inl (.inr ⟨o, e _ _ h⟩)
  · exact .inr h
theorem tk_keep {K : PySem.W.Frag} {H H' : Hp} {x : V} {d : PyData} (e : Same H H') (h : Dp K H x d) (t : Tk d) : Dp K H' x d := by
  cases t with
  | int _ => cases h; exact .int _
  | bl b => cases h; exact .bl _
  | non => cases h; exact .non
  | one => cases h; exact .str _
  | lst =>
    cases h with
    | lst q a =>
      refine .lst (sqL_keep e q) ?_
      cases a with
      | cons b c =>
        cases b
        cases c
        exact .cons (.int _) .nil
theorem Item.keep {K : PySem.W.Frag} {H H' : Hp} {x : V} (e : Same H H') (h : Item K H x) : Item K H' x := let ⟨d, a, b⟩ := h; ⟨d, tk_keep e a b, b⟩
theorem tks_keep {K : PySem.W.Frag} {H H' : Hp} (e : Same H H') : ∀ {xs : List V} {ds : List PyData}, DpAll K H xs ds → (∀ d ∈ ds, Tk d) → DpAll K H' xs ds
  | _, _, .nil, _ => .nil
  | _, _, .cons a b, t => .cons (tk_keep e a (t _ (by simp))) (tks_keep e b fun d m => t d (List.mem_cons_of_mem _ m))
theorem items_data {K : PySem.W.Frag} {H : Hp} : ∀ {xs : List V}, (∀ x ∈ xs, Item K H x) → ∃ ds, DpAll K H xs ds ∧ (∀ d ∈ ds, Tk d) ∧ ds.length = xs.length
  | [], _ => ⟨[], .nil, by simp, rfl⟩
  | x :: xs, h => by
    obtain ⟨d, a, b⟩ := h x (by simp)
    obtain ⟨ds, c1, c2, c3⟩ := items_data (xs := xs) fun y m => h y (List.mem_cons_of_mem _ m)
    refine ⟨d :: ds, .cons a c1, fun y m => ?_, by rw [List.length_cons, List.length_cons, c3]⟩
    rcases List.mem_cons.mp m with q | q
    · rw [q]; exact b
    · exact c2 y q
theorem item_int {K : PySem.W.Frag} {H : Hp} {i : Int} (h : i.natAbs < 1000000) : Item K H (.int i) := ⟨_, .int i, .int h⟩
theorem tk_lay {d : PyData} (t : Tk d) : d.canLay0 = true ∧ d.depth ≤ 1 := by
  cases t with
  | int _ => exact ⟨by simp [PyData.canLay0], by simp [PyData.depth]⟩
  | bl b => exact ⟨by simp [PyData.canLay0], by simp [PyData.depth]⟩
  | non => exact ⟨by simp [PyData.canLay0], by simp [PyData.depth]⟩
  | one => exact ⟨by decide +kernel, by simp [PyData.depth]⟩
  | lst => exact ⟨by simp [PyData.canLay0, PyData.canLayAll0], by simp [PyData.depth, PyData.depthAll]⟩
theorem tks_lay : ∀ {ds : List PyData}, (∀ d ∈ ds, Tk d) → PyData.canLayAll0 ds = true ∧ PyData.depthAll ds ≤ 1
  | [], _ => by simp [PyData.canLayAll0, PyData.depthAll]
  | d :: ds, h => by
    have h1 := tk_lay (h d (by simp))
    have h2 := tks_lay (ds := ds) fun y m => h y (List.mem_cons_of_mem _ m)
    simp only [PyData.canLayAll0, PyData.depthAll, h1.1, h2.1, Bool.and_self, true_and]
    omega
theorem tks_shaped {ds : List PyData} (h : ∀ d ∈ ds, Tk d) : SeqAt.shaped (.list ds) = true := by
  have q := tks_lay h
  have e : decide ((PyData.list ds).depth ≤ 64) = true := decide_eq_true (by simp only [PyData.depth]; omega)
  show ((PyData.list ds).canLay0 && _) = true
  rw [e, Bool.and_true]
  exact q.1
theorem tk_show {d : PyData} (t : Tk d) : d.showable = true ∧ d.hasDict = false ∧ d.leavesShort 13 = true ∧ d.weight ≤ 30 := by
  cases t with
  | @int i h =>
    have hl : i.natAbs.log2 < 20 ∨ i = 0 := by
      by_cases z : i = 0
      · exact .inr z
      · exact .inl ((Nat.log2_lt (by omega)).mpr (by omega))
    refine ⟨decide_eq_true ?_, rfl, decide_eq_true (PyData.shown_int_le (by omega)), ?_⟩
    · rcases hl with z | z
      · omega
      · subst z; decide
    · rcases hl with z | z
      · simp only [PyData.weight]; split <;> omega
      · subst z; decide
  | bl b => exact ⟨rfl, rfl, rfl, by simp [PyData.weight]⟩
  | non => exact ⟨rfl, rfl, rfl, by simp [PyData.weight]⟩
  | one => exact ⟨rfl, rfl, by decide +kernel, by decide +kernel⟩
  | lst => exact ⟨by decide +kernel, rfl, by decide +kernel, by decide +kernel⟩
theorem tks_show : ∀ {ds : List PyData}, (∀ d ∈ ds, Tk d) → PyData.showableAll ds = true ∧ PyData.hasDictAll ds = false ∧ PyData.leavesShortAll 13 ds = true ∧ PyData.weightAll ds ≤ 31 * ds.length
  | [], _ => by simp [PyData.showableAll, PyData.hasDictAll, PyData.leavesShortAll, PyData.weightAll]
  | d :: ds, h => by
    have h1 := tk_show (h d (by simp))
    have h2 := tks_show (ds := ds) fun y m => h y (List.mem_cons_of_mem _ m)
    simp only [PyData.showableAll, PyData.hasDictAll, PyData.leavesShortAll, PyData.weightAll, h1.1, h1.2.1, h1.2.2.1, h2.1, h2.2.1, h2.2.2.1, Bool.and_self, Bool.or_self, true_and, List.length_cons]
    omega
theorem tks_shown {ds : List PyData} (h : ∀ d ∈ ds, Tk d) (l : ds.length ≤ 1000) : (PyData.list ds).shown.length ≤ sizeLine :=
  PyData.shown_fits (B := 13) (by decide) (by decide) (tks_show h).2.2.1 (Nat.le_trans (tks_show h).2.2.2 (by omega))
def isI : V → Bool
  | .int _ => true
  | _ => false
def isBit (x : V) : Bool := decide (x = .int 0) || decide (x = .int 1)
theorem all_ints {xs : List V} (h : ∀ x ∈ xs, isI x = true) : ∃ zs : List Int, xs = zs.map V.int := by
  induction xs with
  | nil => exact ⟨[], rfl⟩
  | cons x xs ih =>
    obtain ⟨zs, e⟩ := ih fun y m => h y (List.mem_cons_of_mem _ m)
    have hx := h x (by simp)
    cases x with
    | int i => exact ⟨i :: zs, by rw [e]; rfl⟩
    | _ => cases hx
theorem all_bits {xs : List V} (h : ∀ x ∈ xs, isBit x = true) : ∃ zs : List Int, xs = zs.map V.int ∧ ∀ z ∈ zs, z = 0 ∨ z = 1 := by
  induction xs with
  | nil => exact ⟨[], rfl, by simp⟩
  | cons x xs ih =>
    obtain ⟨zs, e, b⟩ := ih fun y m => h y (List.mem_cons_of_mem _ m)
    have hx := h x (by simp)
    have hc : x = .int 0 ∨ x = .int 1 := by
      rcases Bool.or_eq_true_iff.mp hx with q | q
      · exact .inl (of_decide_eq_true q)
      · exact .inr (of_decide_eq_true q)
    have : ∃ i : Int, x = .int i ∧ (i = 0 ∨ i = 1) := by
      rcases hc with q | q
      · exact ⟨0, q, .inl rfl⟩
      · exact ⟨1, q, .inr rfl⟩
    obtain ⟨i, rfl, hi⟩ := this
    refine ⟨i :: zs, by rw [e]; rfl, fun z m => ?_⟩
    rcases List.mem_cons.mp m with q | q
    · rw [q]; exact hi
    · exact b z q
/-- what isinstance asks of such a tick -/
theorem tyx_of {K : PySem.W.Frag} {H : Hp} {x : V} (h : Item K H x) : ∃ (n : String) (a b : Bool), TyX K H x (.type n) ∧ PySem.W.kitOne K (.type n) (.type "int") = some a ∧
    PySem.W.kitOne K (.type n) (.type "bool") = some b ∧ (a && !b) = isI x := by
  obtain ⟨d, h, t⟩ := h
  cases t with
  | int _ => cases h; exact ⟨"int", true, false, .base (.int _), kit_ty (by decide +kernel), kit_ty (by decide +kernel), rfl⟩
  | bl b => cases h; exact ⟨"bool", true, true, .base (.bl _), kit_ty (by decide +kernel), kit_ty (by decide +kernel), rfl⟩
  | non => cases h; exact ⟨"NoneType", false, false, .base .non, kit_ty (by decide +kernel), kit_ty (by decide +kernel), rfl⟩
  | one => cases h; exact ⟨"str", false, false, .base (.str _), kit_ty (by decide +kernel), kit_ty (by decide +kernel), rfl⟩
  | lst =>
    cases h with
    | lst q a =>
      rcases q with (q | ⟨o, q⟩) | q
      · exact ⟨"list", false, false, .base (.lst q), kit_ty (by decide +kernel), kit_ty (by decide +kernel), rfl⟩
      · exact ⟨"list", false, false, .base (.frz q), kit_ty (by decide +kernel), kit_ty (by decide +kernel), rfl⟩
      · obtain ⟨o, xs, n, e, c, _⟩ := q
        exact ⟨"list", false, false, .kList e c, kit_ty (by decide +kernel), kit_ty (by decide +kernel), rfl⟩
/-- a list or a tuple -/
def SqA (K : PySem.W.Frag) (H : Hp) (a : Addr) (xs : List V) : Prop := SqL K H a xs ∨ SqT K H a xs
theorem SqA.keep {K : PySem.W.Frag} {H H' : Hp} {a : Addr} {xs : List V} (e : Same H H') (h : SqA K H a xs) : SqA K H' a xs := h.imp (sqL_keep e) (sameT e)
end Wm

/-! Texts of digits: halves, groups, the number they tell. -/
namespace Wm
open PySem L2 TL
def oneS (g : Nat) : Str := ⟨(List.replicate g 49).toArray⟩
def bitS (z : Int) : Str := if z = 1 then "1" else "0"
def decS (g : Nat) : Str := ((toString (g : Int) : String) : Str)
theorem bit_str {z : Int} (h : z = 0 ∨ z = 1) : ((toString z : String) : Str) = bitS z := by
  rcases h with e | e <;> subst e <;> decide +kernel
theorem tl_bit (z : Int) : tl (bitS z) = [if z = 1 then 49 else 48] := by
  unfold bitS
  by_cases c : z = 1
  · rw [if_pos c, if_pos c]; decide +kernel
  · rw [if_neg c, if_neg c]; decide +kernel
theorem joinL_nil : ∀ ps : List (List Nat), joinL [] ps = ps.flatten
  | [] => rfl
  | [p] => by show p = [p].flatten; simp
  | p :: q :: r => by
    show p ++ ([] ++ joinL [] (q :: r)) = _
    rw [joinL_nil (q :: r), List.nil_append]
    rfl
theorem tl_empty : tl ("" : Str) = [] := by decide +kernel
theorem tl_zero : tl ("0" : Str) = [48] := by decide +kernel
theorem tl_join0 (ys : List Str) : tl (Txt.join "" ys) = (ys.map tl).flatten := by
  rw [join_eq, tl_join, tl_empty, joinL_nil]
theorem bits_flat : ∀ zs : List Int, ((zs.map bitS).map tl).flatten = bits zs
  | [] => rfl
  | z :: zs => by
    rw [List.map_cons, List.map_cons, List.flatten_cons, bits_flat zs, tl_bit]
    rfl
theorem halves_eq (zs : List Int) : Txt.join "" (zs.map bitS) = Txt.join "0" ((gaps zs).map oneS) := by
  refine ext_tl ?_
  rw [tl_join0, bits_flat, gaps_join, join_eq, tl_join, tl_zero, List.map_map]
  rfl
theorem groups_eq (zs : List Int) : Txt.split (Txt.join "" (zs.map bitS)) "0" = (gaps zs).map oneS := by
  rw [halves_eq]
  refine split_join (s := 48) (S := []) tl_zero (by decide +kernel) (map_ne (gaps_ne zs)) fun p hp h => ?_
  obtain ⟨g, _, rfl⟩ := List.mem_map.mp hp
  have h : 48 ∈ List.replicate g 49 := h
  exact absurd (List.mem_replicate.mp h).2 (by decide)
theorem oneS_len (g : Nat) : (oneS g).length = g := by
  rw [len_tl]
  show (List.replicate g 49).length = g
  rw [List.length_replicate]
theorem halves_len (zs : List Int) : (Txt.join "" (zs.map bitS)).length = zs.length := by
  rw [len_tl, tl_join0, bits_flat]
  unfold bits
  rw [List.length_map]
theorem len4 : ∀ g : Fin 1001, (decS g.val).length ≤ 4 := by decide +kernel
theorem dec_len {g : Nat} (h : g ≤ 1000) : (decS g).length ≤ 4 := len4 ⟨g, by omega⟩
theorem dec_sum : ∀ {gs : List Nat}, (∀ g ∈ gs, g ≤ 1000) → ((gs.map decS).map (·.length)).sum ≤ 4 * gs.length
  | [], _ => by simp
  | g :: gs, h => by
    have h1 := dec_len (h g (by simp))
    have h2 := dec_sum (gs := gs) fun y m => h y (List.mem_cons_of_mem _ m)
    rw [List.map_cons, List.map_cons, List.sum_cons, List.length_cons]
    omega
theorem join0_len (ys : List Str) : (Txt.join "" ys).length = (ys.map (·.length)).sum := by
  rw [len_tl, tl_join0]
  induction ys with
  | nil => rfl
  | cons y ys ih => rw [List.map_cons, List.flatten_cons, List.length_append, ih, List.map_cons, List.sum_cons, len_tl]
theorem bit_sum (zs : List Int) : ((zs.map bitS).map (·.length)).sum = zs.length := by rw [← join0_len, halves_len]
theorem num_text : ∀ {ds : List Nat}, (∀ d ∈ ds, 1 ≤ d ∧ d ≤ 9) → Txt.join "" (ds.map decS) = numS ds
  | [], _ => by decide +kernel
  | d :: ds, h => by
    have ih := num_text (ds := ds) fun y m => h y (List.mem_cons_of_mem _ m)
    refine ext_tl ?_
    rw [tl_join0, List.map_cons, List.map_cons, List.flatten_cons, ← tl_join0, ih]
    have e : decS d = numS [d] := dig_str (h d (by simp))
    rw [e]
    rfl
/-- the number that a row of bits tells, if it is a row -/
def told (zs : List Int) : Str := Txt.join "" ((gaps (Hf.ev2 zs)).dropLast.dropLast.map decS)
theorem told_row {ds : List Nat} (h : ∀ d ∈ ds, 1 ≤ d ∧ d ≤ 9) : told (rowL ds) = numS ds := by
  unfold told
  rw [gaps_row, ← num_text h]
  congr 2
  show (ds ++ [0, 0]).dropLast.dropLast = ds
  rw [show (ds ++ [0, 0]) = (ds ++ [0]) ++ [0] by simp, List.dropLast_concat, List.dropLast_concat]
theorem digits_codes : ("123456789" : Str).cps.toList = [49, 50, 51, 52, 53, 54, 55, 56, 57] := by decide +kernel
theorem dig_text (t : Str) (h : ∀ c ∈ tl t, c ∈ ("123456789" : Str).cps.toList) : ∃ ds : List Nat, (∀ d ∈ ds, 1 ≤ d ∧ d ≤ 9) ∧ t = numS ds := by
  have h2 : ∀ c ∈ tl t, 49 ≤ c ∧ c ≤ 57 := fun c m => by
    have q := h c m
    rw [digits_codes] at q
    simp only [List.mem_cons, List.not_mem_nil, or_false] at q
    omega
  refine ⟨(tl t).map (· - 48), fun d m => ?_, ?_⟩
  · obtain ⟨c, mc, rfl⟩ := List.mem_map.mp m
    have := h2 c mc
    omega
  · refine ext_tl ?_
    show tl t = ((tl t).map (· - 48)).map (· + 48)
    rw [List.map_map]
    refine (List.map_id _).symm.trans (List.map_congr_left fun c m => ?_)
    have := h2 c m
    show c = c - 48 + 48
    omega
theorem num_codes {ds : List Nat} (h : ∀ d ∈ ds, 1 ≤ d ∧ d ≤ 9) : ∀ c ∈ tl (numS ds), c ∈ ("123456789" : Str).cps.toList := fun c m => by
  have m : c ∈ codes ds := m
  obtain ⟨d, md, rfl⟩ := List.mem_map.mp m
  exact dig_in (h d md)
def IsNum (t : Str) : Prop := ∃ ds, Num ds ∧ t = numS ds
theorem isnum_dig {ds : List Nat} : IsNum (numS ds) ↔ Num ds :=
  ⟨fun ⟨es, N, e⟩ => by rw [numS_inj e]; exact N, fun N => ⟨ds, N, rfl⟩⟩
theorem row_inj {ds es : List Nat} (N : Num ds) (M : Num es) (h : (rowL ds).map V.int = (rowL es).map V.int) : ds = es := by
  have e : rowL ds = rowL es := by
    have q := congrArg (List.map fun v => match v with | V.int i => i | _ => 0) h
    simpa [List.map_map, Function.comp_def] using q
  exact ones_inj (fun d m => (N.dig d m).1) (fun d m => (M.dig d m).1) (by rw [e])
theorem map_int_inj {xs ys : List Int} (h : xs.map V.int = ys.map V.int) : xs = ys := by
  have q := congrArg (List.map fun v => match v with | V.int i => i | _ => 0) h
  simpa [List.map_map, Function.comp_def] using q
/-- what number_of tells of a row -/
def Told (xs : List V) (v : V) : Prop := (∃ ds, Num ds ∧ xs = (rowL ds).map V.int ∧ v = .str (numS ds)) ∨ ((∀ ds, Num ds → xs ≠ (rowL ds).map V.int) ∧ v = .non)
theorem Told.uniq {xs : List V} {v u : V} (a : Told xs v) (b : Told xs u) : v = u := by
  rcases a with ⟨ds, N, e, rfl⟩ | ⟨n, rfl⟩
  · rcases b with ⟨es, M, f, rfl⟩ | ⟨n, _⟩
    · rw [row_inj N M (e.symm.trans f)]
    · exact absurd e (n ds N)
  · rcases b with ⟨es, M, f, rfl⟩ | ⟨_, rfl⟩
    · exact absurd f (n es M)
    · rfl
theorem Told.row {ds : List Nat} {v : V} (N : Num ds) (a : Told ((rowL ds).map V.int) v) : v = .str (numS ds) := a.uniq (.inl ⟨ds, N, rfl, rfl⟩)
end Wm

/-! enumerate of a tuple, as a thing that a for walks. -/
namespace Es
open PySem PySem.Spec PyProof.Rows L2
theorem meets_ent (t : Addr) (its : Array Value) (m : Nat) (dd : Option Addr) (slo : Array (Option Value)) :
    Meets (Builtin.«enumerate.__new__» ⟨[.type "enumerate", .ref t], []⟩) (fun _ R s => s.heap.get? t = some { cls := .type "tuple", dict := dd, data := .seq its m, slots := slo } ∧
      R (.ok (.ret (.ref (s.heap.push { cls := .type "tuple_iterator", data := .fields #[.ref t, .int 0 0] }).objs.size))) { s with heap := (s.heap.push { cls := .type "tuple_iterator", data := .fields #[.ref t, .int 0 0] }).push { cls := .type "enumerate", data := .fields #[.none, .bool false, .ref s.heap.objs.size, rawInt 0, .none, .none] } }) :=
  .of_wp fun prog w A R s h => by
    obtain ⟨hp, gn, dr, tk, os⟩ := s
    obtain ⟨ht, h⟩ := h
    have hsub := sub_enumerate
    have hT : Heap.IsTuple (Shared.heap ⟨hp, gn, dr, tk, os⟩) t its := ⟨_, ht, rfl, m, rfl⟩
    wp_walk using AutoSeq1.wpAny_loadPart' ht
    refine wpAny_stack_any fun st => wpAny_pure ?_
    split
    · rename_i c _ _ _ _ _
      cases (c == Value.type "enumerate")
      · wp_walk using AutoSeq1.wpAny_loadPart' ht, wpAny_pyIter_tuple hT
        exact ⟨_, rfl, h⟩
      · wp_walk using AutoSeq1.wpAny_loadPart' ht, wpAny_pyIter_tuple hT
        exact ⟨_, rfl, h⟩
    · wp_walk using AutoSeq1.wpAny_loadPart' ht, wpAny_pyIter_tuple hT
      exact ⟨_, rfl, h⟩
section
variable {prog : Program} {w : World} {A : Around} {E : Value → Shared → Prop} {s : Shared}
theorem call_ent {t : Addr} {its : Array Value} {Q : Value → Shared → Prop} (ht : s.heap.IsTuple t its)
    (q : ∀ g, IsEnum g (s.heap.objs.size + 1) s.heap.objs.size 0 .none → g.IsTupleIter s.heap.objs.size t 0 → (∀ b o, s.heap.get? b = some o → g.get? b = some o) → Q (.ref (s.heap.objs.size + 1)) { s with heap := g }) :
    wpAny (model prog w) A (call (.type "enumerate") [.ref t]) Q E s := by
  obtain ⟨⟨tc, td, tdat, tsl⟩, h0, h1, m, h2⟩ := ht
  simp only at h1 h2
  subst h1 h2
  refine callType_new F.called_enumerate (by decide) (F.typeCall_enumerate_1 _) (F.newCall_enumerate_1 _) (fun ob => F.args_object_init_2 ob _) F.entry_enumerate_new (meets_ent t its m td tsl) ⟨h0, ?_⟩
  have hz : (s.heap.push { cls := .type "tuple_iterator", data := .fields #[.ref t, .int 0 0] }).objs.size = s.heap.objs.size + 1 := Heap.size_push ..
  have er : IsEnum ((s.heap.push { cls := .type "tuple_iterator", data := .fields #[.ref t, .int 0 0] }).push { cls := .type "enumerate", data := .fields #[.none, .bool false, .ref s.heap.objs.size, rawInt 0, .none, .none] }) (s.heap.objs.size + 1) s.heap.objs.size 0 .none := by
    rw [← hz]
    exact Heap.get?_push_size _ rfl
  show _ ∧ _
  rw [hz]
  exact ⟨⟨_, er, rfl⟩, q _ er ⟨_, Heap.get?_push_of_some _ (Heap.get?_push_size _ rfl), rfl, rfl⟩ fun b o x => Heap.get?_push_of_some _ (Heap.get?_push_of_some _ x)⟩
theorem tup_end {e it t : Addr} {i : Nat} {its : Array Value} {old : Value} {k : Int} {Q : Option Value → Shared → Prop} (hh : A.handled = none) (er : IsEnum s.heap e it k old) (ti : s.heap.IsTupleIter it t i) (ht : s.heap.IsTuple t its) (hx : its[i]? = none)
    (q : ∀ g, Heap.ExtBut it s.heap g → Q none { s with heap := g }) : wpAny (model prog w) A (pyNext (.ref e)) Q E s := by
  have te : s.TypeIs (.ref e) "enumerate" := ⟨_, er, rfl⟩
  unfold pyNext
  refine wpAny_bind (wpAny_attempt (wpAny_callSpecial?_slot (name := Str.ofString "__next__") te F.slot_enumerate_next (wpAny_call_entry F.slot_enumerate_next te F.entry_enumerate_next ?_ (F.args_enumerate_next_1 _))))
  show wpAny _ _ (field (.ref e) 2 >>= _) _ _ _
  refine wpAny_bind (wpAny_field er rfl (x := .ref it) rfl ?_)
  refine wpAny_bind (wpAny_nextOf_tuple_end (show A.in1.handled = none from hh) ti ht hx fun g x k1 ⟨o, k2, k3⟩ => ?_)
  refine wpAny_bind (wpAny_isInstance (T := "StopIteration") (b := true) ⟨o, k2, k3⟩ isSubtype_stop ?_)
  exact wpAny_pure (q _ k1)
end
def Iten (K : PySem.W.Frag) (a : Addr) : It :=
  ⟨fun i H => ∃ (xs : List V) (x : V), SqT K H a xs ∧ xs[i]? = some x, fun i H v H' => ∃ T x, v = .ref T ∧ H T = none ∧ H' = upd H T (.tup [.int (i : Nat), x]) ∧ ∀ xs, SqT K H a xs → xs[i]? = some x, fun i H => ∃ xs : List V, SqT K H a xs ∧ xs.length ≤ i⟩
theorem turn_ent {P : Program} {w : World} {K : PySem.W.Frag} {elts : List Expr} {kk : Nat} {tpos : Pos} (a e it : Addr) (nei : e ≠ it) (nea : e ≠ a) (nai : a ≠ it) :
    Turn P w K (.Tuple elts kk tpos) (Iten K a) [e, it] e (fun i h => (∃ old, IsEnum h e it ((i : Nat) : Int) old) ∧ h.IsTupleIter it a i) where
  mem := by simp
  obj := fun i h st b hb => by
    obtain ⟨⟨old, er⟩, o, ho, _, hd⟩ := st
    have hb' : b = e ∨ b = it := by simpa using hb
    rcases hb' with z | z
    · rw [z]
      exact ⟨_, er, fun v q => nomatch q⟩
    · rw [z]
      exact ⟨o, ho, fun v q => by rw [hd] at q; cases q⟩
  keep := fun i h g st k => by
    obtain ⟨⟨old, er⟩, ti⟩ := st
    exact ⟨⟨old, k e (by simp) _ er⟩, ti.at fun o q => k it (by simp) o q⟩
  item := by
    intro X hP hw hK hc i pins s σ H E I hf st hg
    subst hP hw hK
    obtain ⟨⟨old, er⟩, ti⟩ := st
    obtain ⟨xs, x, hq, hx⟩ := hg
    obtain ⟨its, rv, p, _⟩ := I.tuple hq
    obtain ⟨u, hu, ru⟩ := rv.get hx
    have el : e < s.heap.objs.size := Heap.lt_size er
    have il : it < s.heap.objs.size := by
      obtain ⟨_, q, _⟩ := id ti
      exact Heap.lt_size q
    have hlt : i < its.toArray.size := by
      have q := (List.getElem?_eq_some_iff.mp hu).1
      simpa using q
    have hd : X.A.in1.handled = none := I.ok.hd hc
    refine wpAny_pyNext_enum_itemD (Draws.tuple hd it a nai its.toArray) er ⟨ti, p⟩ hlt nei (by simp [nei, nea]) fun y g tk hy eo st2 hT hsz hk => ?_
    have ey : y = u := by
      rw [show its.toArray[i]? = some u by simpa using hu] at hy
      exact (Option.some.inj hy).symm
    subst ey
    refine ⟨_, rfl, wpAny_letOwnedTupleGo_enum (s := { s with heap := g, toks := tk + 1 }) eo fun g2 er2 sb => ?_⟩
    have hT2 : g2.get? s.heap.objs.size = some { cls := .type "tuple", data := .seq #[.int i tk, y] } := (sb.2 _ (Nat.ne_of_gt el)).trans hT
    have new : ObjOk X.prog X.w (upd H s.heap.objs.size (.tup [.int (i : Nat), x])) g2 s.heap.objs.size (.tup [.int (i : Nat), x]) := ⟨by show 2 ≤ sizeLine; decide, [.int i tk, y], .cons ⟨_, rfl⟩ (.cons ru .nil), ⟨_, hT2, rfl, _, rfl⟩⟩
    have I1 : Inv X pins σ (upd H s.heap.objs.size (.tup [.int (i : Nat), x])) { s with heap := g2, toks := tk + 1 } := I.turnedNew (ch := [e, it]) (fun b ob hb q => (sb.2 b (fun z => hb (by simp [z]))).trans (hk b ob (fun z => hb (by simp [z])) (fun z => hb (by simp [z])) q)) hf (Nat.le_refl _) new
    refine ⟨.ref s.heap.objs.size, _, I1, rfl, ⟨_, x, rfl, I.hok.fresh (Nat.le_refl _), rfl, fun ys hy => by rw [I.tuple_inj hy hq]; exact hx⟩, ⟨⟨y, ?_⟩, st2.1.at fun o q => (sb.2 it nei.symm).trans q⟩, fun b hb => ?_⟩
    · rw [show ((i + 1 : Nat) : Int) = (i : Int) + 1 by omega]
      exact er2
    · have lb : b < s.heap.objs.size := by
        have hb' : b = e ∨ b = it := by simpa using hb
        rcases hb' with z | z
        · rw [z]; exact el
        · rw [z]; exact il
      rw [upd_ne (Nat.ne_of_lt lb)]
      exact (hf b hb).1
  done := by
    intro X hP hw hK hc i pins s σ H E I hf st hg
    subst hP hw hK
    obtain ⟨⟨old, er⟩, ti⟩ := st
    obtain ⟨xs, hq, hx⟩ := hg
    obtain ⟨its, rv, p, _⟩ := I.tuple hq
    have hl := rv.length
    exact tup_end (I.ok.hd hc) er ti p (by simp; omega) fun g kg => ⟨rfl, I.turnedL (t' := s.toks) (ch := [e, it]) (fun b o hb q => kg b o (fun z => hb (by simp [z])) q) hf⟩
  self := fun A i s Q E st h => let ⟨⟨_, er⟩, _⟩ := st; wpAny_pyIter_enum er h
def iEnt (K : PySem.W.Frag) (ta : TA) : TI := fun σ H R => ta σ H fun vs H1 => ∃ a xs, vs = [.ref a] ∧ SqT K H1 a xs ∧ R (Iten K a) H1
theorem pi_ent {X : Cx} {e : Expr} {ta : TA} {p pos tpos : Pos} {elts : List Expr} {kk : Nat} (hg : Gl X "enumerate") (hm : X.mg "enumerate" = none) (ha : PA X [e] ta) (hs : starEach [e] X.env = [(false, eval e X.env)] := by rfl) :
    PI X (.Tuple elts kk tpos) (.Call (.Name "enumerate" p) [e] [] pos) (iEnt X.K ta) := by
  refine ⟨fun pins s σ H R I h => ?_⟩
  refine Call_ (ld_blt I hg hm boot_enumerate (PyProof.Rows.callWith_type1 (thn (ha.run pos pins s σ H _ I h) fun us s1 ⟨vs, H1, I1, r1, q1⟩ => ?_) hs rfl))
  obtain ⟨a, xs, ev, hq, q⟩ := q1
  subst ev
  cases r1 with
  | cons r rr =>
    cases rr
    cases r
    obtain ⟨its, rv, pt, _⟩ := I1.tuple hq
    obtain ⟨ot, hot, _⟩ := id pt
    have al : a < s1.heap.objs.size := Heap.lt_size hot
    refine call_ent (show s1.heap.IsTuple a its.toArray from pt) fun g er ti kg => wpAny_pyIter_enum er ?_
    have I2 : Inv X pins σ H1 { s1 with heap := g } := I1.kept (t' := s1.toks) kg
    refine ⟨s1.heap.objs.size + 1, [s1.heap.objs.size + 1, s1.heap.objs.size], _, _, H1, rfl, I2, turn_ent a (s1.heap.objs.size + 1) s1.heap.objs.size (Nat.succ_ne_self _) (Nat.ne_of_gt (Nat.lt_succ_of_lt al)) (Nat.ne_of_lt al), ⟨⟨.none, er⟩, ti⟩, fun b hb => ?_, q⟩
    have hb' : b = s1.heap.objs.size + 1 ∨ b = s1.heap.objs.size := by simpa using hb
    have le : s1.heap.objs.size ≤ b := by
      rcases hb' with z | z
      · rw [z]; exact Nat.le_add_right _ _
      · rw [z]; exact Nat.le_refl _
    exact I1.fpOk le (I1.hok.fresh le)
theorem walk_ent {K : PySem.W.Frag} {a : Addr} {xs : List V} : Walk (Iten K a) xs.length (fun H => SqT K H a xs) (YPair (fun i => some (.int (i : Nat))) (fun i => xs[i]?)) := by
  refine ⟨fun i _ hi q => ⟨xs, xs[i], q, by simp [hi]⟩, fun _ q => ⟨xs, q, Nat.le_refl _⟩, fun i H v H' _ q y => ?_⟩
  obtain ⟨T, x, y1, y2, y3, y4⟩ := y
  exact ⟨T, .int (i : Nat), x, y1, y2, y3, rfl, y4 xs q⟩
end Es

/-! xs.extend(t), t a tuple; comprehensions of two clauses by walks. -/
namespace Et
open PySem PySem.Spec PyProof.Rows L2
theorem ext_meets (l : Addr) (us : Array Value) (n : Nat) (b : Addr) (vs : Array Value) (m : Nat) (dd : Option Addr) (sl : Array (Option Value)) (h0 : ¬(!us.isEmpty && Builtin.List.listTooLong (us.size + vs.size)) = true) (h1 : us.size ≤ sizeLine) (h2 : us.size + vs.size ≤ sizeLine + 1) :
    Meets (Builtin.«list.extend» ⟨[.ref l, .ref b], []⟩) (fun _ R s => s.heap.get? l = some { cls := .type "list", dict := none, data := .seq us n, slots := #[] } ∧ s.heap.get? b = some { cls := .type "tuple", dict := dd, data := .seq vs m, slots := sl } ∧ R (.ok (.ret Value.none)) { s with heap := s.heap.update l (Obj.mapSeq fun x => x ++ vs), toks := s.toks }) :=
  .of_wp fun prog w A R s h => by
    obtain ⟨hp, g, d, tk, os⟩ := s
    obtain ⟨hl, hb, h⟩ := h
    have f1 := AutoSeq1.idx_int
    have f2 := AutoSeq1.sub_tuple_tuple
    have f3 := AutoSeq1.sub_list_list
    have f4 := AutoSeq1.sub_tuple_list
    have f5 := AutoSeq1.sub_list_tuple
    have hz' : (us ++ vs).size ≤ sizeLine + 1 := by
      rw [Array.size_append]
      exact h2
    wp_walk using (wpAny_updateSeq hl rfl (hz := h1) (_hz' := hz')), AutoSeq1.wpAny_loadPart' hl, AutoSeq1.wpAny_loadPart' hb
    exact ⟨_, rfl, h⟩
section
variable {X : Cx}
def rExtT (K : PySem.W.Frag) : V → List V → Hp → VK → Prop := fun x vs H Q => ∃ l b xs zs, x = .ref l ∧ vs = [.ref b] ∧ H l = some (.lst xs) ∧ SqT K H b zs ∧ xs.length + zs.length ≤ sizeLine ∧ Q .non (upd H l (.lst (xs ++ zs)))
theorem mt_extT : MtM X "list.extend" (rExtT X.K) := by
  intro pins s σ H x vs v us Q I rx rv h
  obtain ⟨l, b, xs, zs, rfl, rfl, hH, hB, hz, q⟩ := h
  cases rx
  obtain ⟨u, rfl, ru⟩ := rv.one
  cases ru
  obtain ⟨z, its, n, r, hl, e⟩ := I.lstM hH
  obtain ⟨its2, r2, p2, _⟩ := I.tuple hB
  obtain ⟨⟨c2, d2, a2, s2⟩, e2, k1, m, k2⟩ := p2
  simp only at k1 k2
  subst k1 k2
  have hl2 := r2.length
  have hsz : its.toArray.size + its2.toArray.size ≤ sizeLine := by
    rw [List.size_toArray, List.size_toArray]
    omega
  have hlong : ¬ (!its.toArray.isEmpty && Builtin.List.listTooLong (its.toArray.size + its2.toArray.size)) = true := by
    rw [notLongL hsz, Bool.and_false]
    exact Bool.false_ne_true
  refine call_meets F.slot_list_extend ⟨_, e, rfl⟩ F.entry_list_extend (F.args_list_extend_2 _ _) (ext_meets l its.toArray n b its2.toArray m d2 s2 hlong (by rw [List.size_toArray]; omega) (by omega)) ⟨e, e2, ?_⟩
  refine ⟨.non, _, I.lset (its' := its ++ its2) hH e (by simp) (r.append r2) ?_, rfl, q⟩
  rw [List.length_append]
  omega
end
/-- the outer clause of a comprehension of two -/
theorem out_it {J : It} {n : Nat} {G : Hp → Prop} {Y : Nat → Hp → V → Hp → Prop} (w : Walk J n G Y) {g : TG} {tt : TT} {B : (Hp → Prop) → L2.St → Hp → Prop} {vs : List Nat} {σ : L2.St} {H1 : Hp} {D : Addr} {Qd : Hp → Prop} (Pv : Nat → Hp → Prop) (h0 : Pv 0 (upd H1 D (.lst []))) (hG : ∀ i H, i ≤ n → Pv i H → G H)
    (hs : ∀ i x H H', i < n → Pv i H → Y i H x H' → g x (wipe σ vs) H' fun σ2 H2 => wipe σ2 vs = wipe σ vs ∧ tt σ2 H2 fun b H3 => if b = true then B (Pv (i + 1)) σ2 H3 else Pv (i + 1) H3) (hd : ∀ H, Pv n H → Qd H) :
    ∃ W : Nat → Nat → Hp → Prop, (∃ m, W 0 m (upd H1 D (.lst []))) ∧ ∀ i m H, W i m H →
      (J.stop i H ∧ Qd H) ∨ (J.go i H ∧ ∃ Nx : Hp → Prop, (∀ H', Nx H' → ∃ m', m' < m ∧ W (i + 1) m' H') ∧ ∀ x H', J.yld i H x H' → g x (wipe σ vs) H' fun σ2 H2 => wipe σ2 vs = wipe σ vs ∧ tt σ2 H2 fun b H3 => if b = true then B Nx σ2 H3 else Nx H3) := by
  refine ⟨fun i m H => m = n - i ∧ i ≤ n ∧ Pv i H, ⟨n, by simp, Nat.zero_le _, h0⟩, ?_⟩
  rintro i m H ⟨rfl, hi, p⟩
  have q := hG i H hi p
  by_cases lt : i < n
  · exact .inr ⟨w.goes i H lt q, Pv (i + 1), fun H' p' => ⟨n - (i + 1), by omega, rfl, lt, p'⟩, fun x H' y => hs i x H H' lt p (w.yields i H x H' lt q y)⟩
  · have e : i = n := by omega
    subst e
    exact .inl ⟨w.stops H q, hd H p⟩
/-- the inner clause -/
theorem in_it {J : It} {n : Nat} {G : Hp → Prop} {Y : Nat → Hp → V → Hp → Prop} (w : Walk J n G Y) {g : TG} {tt : TT} {te : TE} {vs : List Nat} {σ : L2.St} {H1 : Hp} {D : Addr} {Qd : Hp → Prop} (Pv : Nat → Hp → Prop) (h0 : Pv 0 H1) (hG : ∀ i H, i ≤ n → Pv i H → G H)
    (hs : ∀ i x H H', i < n → Pv i H → Y i H x H' → g x (wipe σ vs) H' fun σ2 H2 => wipe σ2 vs = wipe σ vs ∧ tt σ2 H2 fun b H3 =>
      if b = true then te σ2 H3 fun y H4 => ∃ acc, H4 D = some (.lst acc) ∧ acc.length < sizeLine ∧ Pv (i + 1) (upd H4 D (.lst (acc ++ [y]))) else Pv (i + 1) H3) (hd : ∀ H, Pv n H → Qd H) :
    ∃ W : Nat → Nat → Hp → Prop, (∃ m, W 0 m H1) ∧ ∀ i m H, W i m H →
      (J.stop i H ∧ Qd H) ∨ (J.go i H ∧ ∃ Nx : Hp → Prop, (∀ H', Nx H' → ∃ m', m' < m ∧ W (i + 1) m' H') ∧ ∀ x H', J.yld i H x H' → g x (wipe σ vs) H' fun σ2 H2 => wipe σ2 vs = wipe σ vs ∧ tt σ2 H2 fun b H3 =>
        if b = true then te σ2 H3 fun y H4 => ∃ acc, H4 D = some (.lst acc) ∧ acc.length < sizeLine ∧ Nx (upd H4 D (.lst (acc ++ [y]))) else Nx H3) := by
  refine ⟨fun i m H => m = n - i ∧ i ≤ n ∧ Pv i H, ⟨n, by simp, Nat.zero_le _, h0⟩, ?_⟩
  rintro i m H ⟨rfl, hi, p⟩
  have q := hG i H hi p
  by_cases lt : i < n
  · refine .inr ⟨w.goes i H lt q, Pv (i + 1), fun H' p' => ⟨n - (i + 1), by omega, rfl, lt, p'⟩, fun x H' y => hs i x H H' lt p (w.yields i H x H' lt q y)⟩
  · have e : i = n := by omega
    subst e
    exact .inl ⟨w.stops H q, hd H p⟩
end Et

/-! Data of ints, texts and tuples of such; what keeps them. -/
namespace Dv
open PySem L2 Wm
mutual
inductive Dt (K : PySem.W.Frag) (H : Hp) : V → PyData → Prop
  | int (i : Int) : Dt K H (.int i) (.int i)
  | str (x : Str) : Dt K H (.str x) (.str x)
  | tup {a : Addr} {xs : List V} {ds : List PyData} : SqT K H a xs → Dts K H xs ds → Dt K H (.ref a) (.tuple ds)
inductive Dts (K : PySem.W.Frag) (H : Hp) : List V → List PyData → Prop
  | nil : Dts K H [] []
  | cons {v : V} {vs : List V} {d : PyData} {ds : List PyData} : Dt K H v d → Dts K H vs ds → Dts K H (v :: vs) (d :: ds)
end
/-- tuples stand -/
def Kt (K : PySem.W.Frag) (H H' : Hp) : Prop := ∀ a xs, SqT K H a xs → SqT K H' a xs
section
variable {K : PySem.W.Frag} {H H' H2 : Hp}
theorem Kt.refl : Kt K H H := fun _ _ h => h
theorem Kt.trans (a : Kt K H H') (b : Kt K H' H2) : Kt K H H2 := fun p xs h => b p xs (a p xs h)
theorem Kt.same (s : Same H H') : Kt K H H' := fun _ _ h => sameT s h
/-- a store at what is no tuple -/
theorem Kt.set {p : Addr} {o u : HO} (h : H p = some u) (n1 : ∀ xs, u ≠ .tup xs) (n2 : ∀ ob xs, u ≠ .frz ob (.tup xs)) : Kt K H (upd H p o) := fun a xs q => by
  rcases q with (q | ⟨ob, q⟩) | q
  · exact .inl (.inl (by rw [upd_ne (fun e => by subst e; rw [h] at q; exact n1 _ (Option.some.inj q))]; exact q))
  · exact .inl (.inr ⟨ob, by rw [upd_ne (fun e => by subst e; rw [h] at q; exact n2 _ _ (Option.some.inj q))]; exact q⟩)
  · exact .inr q
theorem Kt.lst {p : Addr} {o : HO} {xs : List V} (h : H p = some (.lst xs)) : Kt K H (upd H p o) := Kt.set h (fun _ q => by cases q) (fun _ _ q => by cases q)
theorem Kt.new {p : Addr} {o : HO} (h : H p = none) : Kt K H (upd H p o) := Kt.same (same_new h)
mutual
theorem Dt.keep (k : Kt K H H') : ∀ (d : PyData) (v : V), Dt K H v d → Dt K H' v d
  | .int _, _, h => by cases h; exact .int _
  | .str _, _, h => by cases h; exact .str _
  | .tuple ds, _, h => by
    cases h with
    | tup a b => exact .tup (k _ _ a) (Dts.keep k ds _ b)
  | .none, _, h => by cases h
  | .bool _, _, h => by cases h
  | .list _, _, h => by cases h
  | .dict _, _, h => by cases h
theorem Dts.keep (k : Kt K H H') : ∀ (ds : List PyData) (vs : List V), Dts K H vs ds → Dts K H' vs ds
  | [], _, h => by cases h; exact .nil
  | d :: ds, _, h => by
    cases h with
    | cons a b => exact .cons (Dt.keep k d _ a) (Dts.keep k ds _ b)
end
mutual
theorem Dt.dp : ∀ (d : PyData) (v : V), Dt K H v d → Dp K H v d
  | .int _, _, h => by cases h; exact .int _
  | .str _, _, h => by cases h; exact .str _
  | .tuple ds, _, h => by
    cases h with
    | tup a b => exact .tup a (Dts.dp ds _ b)
  | .none, _, h => by cases h
  | .bool _, _, h => by cases h
  | .list _, _, h => by cases h
  | .dict _, _, h => by cases h
theorem Dts.dp : ∀ (ds : List PyData) (vs : List V), Dts K H vs ds → DpAll K H vs ds
  | [], _, h => by cases h; exact .nil
  | d :: ds, _, h => by
    cases h with
    | cons a b => exact .cons (Dt.dp d _ a) (Dts.dp ds _ b)
end
theorem Dt.k {d : PyData} {v : V} (h : Dt K H v d) (k : Kt K H H') : Dt K H' v d := Dt.keep k _ _ h
theorem Dts.k {ds : List PyData} {vs : List V} (h : Dts K H vs ds) (k : Kt K H H') : Dts K H' vs ds := Dts.keep k _ _ h
theorem Dt.toDp {d : PyData} {v : V} (h : Dt K H v d) : Dp K H v d := Dt.dp _ _ h
theorem Dts.toDp {ds : List PyData} {vs : List V} (h : Dts K H vs ds) : DpAll K H vs ds := Dts.dp _ _ h
theorem Dt.inv {ds : List PyData} {v : V} (h : Dt K H v (.tuple ds)) : ∃ p xs, v = .ref p ∧ SqT K H p xs ∧ Dts K H xs ds := by
  cases h with
  | tup a b => exact ⟨_, _, rfl, a, b⟩
theorem Dt.str_inv {x : Str} {v : V} (h : Dt K H v (.str x)) : v = .str x := by cases h; rfl
theorem Dt.int_inv {i : Int} {v : V} (h : Dt K H v (.int i)) : v = .int i := by cases h; rfl
theorem Dts.len {ds : List PyData} {vs : List V} (h : Dts K H vs ds) : vs.length = ds.length := by
  induction ds generalizing vs with
  | nil => cases h; rfl
  | cons d ds ih =>
    cases h with
    | cons a b => rw [List.length_cons, List.length_cons, ih b]
theorem Dts.at {i : Nat} {ds : List PyData} {vs : List V} {v : V} (h : Dts K H vs ds) (g : vs[i]? = some v) : ∃ d, ds[i]? = some d ∧ Dt K H v d := by
  induction ds generalizing vs i with
  | nil =>
    cases h
    simp at g
  | cons d ds ih =>
    cases h with
    | cons a b =>
      cases i with
      | zero =>
        simp at g
        subst g
        exact ⟨d, rfl, a⟩
      | succ i => exact ih b (by simpa using g)
theorem Dts.get {i : Nat} {ds : List PyData} {vs : List V} {d : PyData} (h : Dts K H vs ds) (g : ds[i]? = some d) : ∃ v, vs[i]? = some v ∧ Dt K H v d := by
  have li := (List.getElem?_eq_some_iff.mp g).1
  obtain ⟨v, e⟩ : ∃ v, vs[i]? = some v := ⟨_, List.getElem?_eq_getElem (by rw [h.len]; exact li)⟩
  obtain ⟨d2, e2, a⟩ := h.at e
  rw [g] at e2
  cases e2
  exact ⟨v, e, a⟩
theorem Dts.app {ds es : List PyData} {vs ws : List V} (h : Dts K H vs ds) (g : Dts K H ws es) : Dts K H (vs ++ ws) (ds ++ es) := by
  induction ds generalizing vs with
  | nil => cases h; exact g
  | cons d ds ih =>
    cases h with
    | cons a b => exact .cons a (ih b)
theorem Dts.snoc {ds : List PyData} {d : PyData} {vs : List V} {v : V} (h : Dts K H vs ds) (g : Dt K H v d) : Dts K H (vs ++ [v]) (ds ++ [d]) := h.app (.cons g .nil)
theorem Dts.take {ds : List PyData} {vs : List V} (h : Dts K H vs ds) : ∀ n, Dts K H (vs.take n) (ds.take n) := by
  induction ds generalizing vs with
  | nil => cases h; intro n; simp; exact .nil
  | cons d ds ih =>
    cases h with
    | cons a b =>
      intro n
      cases n with
      | zero => exact .nil
      | succ n => exact .cons a (ih b n)
theorem Dts.drop {ds : List PyData} {vs : List V} (h : Dts K H vs ds) : ∀ n, Dts K H (vs.drop n) (ds.drop n) := by
  induction ds generalizing vs with
  | nil => cases h; intro n; simp; exact .nil
  | cons d ds ih =>
    cases h with
    | cons a b =>
      intro n
      cases n with
      | zero => exact .cons a b
      | succ n => exact ih b n
theorem dts_str : ∀ ss : List Str, Dts K H (ss.map V.str) (ss.map PyData.str)
  | [] => .nil
  | s :: ss => .cons (.str s) (dts_str ss)
theorem dts_str_inv {ss : List Str} {vs : List V} (h : Dts K H vs (ss.map PyData.str)) : vs = ss.map V.str := by
  induction ss generalizing vs with
  | nil => cases h; rfl
  | cons s ss ih =>
    cases h with
    | cons a b => rw [a.str_inv, ih b]; rfl
theorem dts_int : ∀ ns : List Int, Dts K H (ns.map V.int) (ns.map PyData.int)
  | [] => .nil
  | s :: ss => .cons (.int s) (dts_int ss)
theorem dts_int_inv {ns : List Int} {vs : List V} (h : Dts K H vs (ns.map PyData.int)) : vs = ns.map V.int := by
  induction ns generalizing vs with
  | nil => cases h; rfl
  | cons s ss ih =>
    cases h with
    | cons a b => rw [a.int_inv, ih b]; rfl
theorem dt_tup {p : Addr} {xs : List V} {ds : List PyData} (h : H p = some (.tup xs)) (g : Dts K H xs ds) : Dt K H (.ref p) (.tuple ds) := .tup (SqT.of h) g
end
/-- data that == may be asked of: texts in the line, not deep -/
def Fine (n : Nat) (d : PyData) : Prop := d.canLay0 = true ∧ d.depth ≤ n
theorem fine_int {n : Nat} (i : Int) : Fine n (.int i) := ⟨by simp [PyData.canLay0], by simp [PyData.depth]⟩
theorem fine_tup {n : Nat} {ds : List PyData} (h : ∀ d ∈ ds, Fine n d) : Fine (n + 1) (.tuple ds) := by
  have q : PyData.canLayAll0 ds = true ∧ PyData.depthAll ds ≤ n := by
    induction ds with
    | nil => simp [PyData.canLayAll0, PyData.depthAll]
    | cons d ds ih =>
      have h1 := h d (by simp)
      have h2 := ih fun y m => h y (List.mem_cons_of_mem _ m)
      simp only [PyData.canLayAll0, PyData.depthAll, h1.1, h2.1, Bool.and_self, true_and]
      have := h1.2
      have := h2.2
      omega
  exact ⟨by simp only [PyData.canLay0]; exact q.1, by simp only [PyData.depth]; have := q.2; omega⟩
theorem fine_str {n : Nat} {x : Str} (h : x.cps.all (· < 0x110000) = true) : Fine n (.str x) := ⟨by simp only [PyData.canLay0]; exact h, by simp [PyData.depth]⟩
theorem fine_num {n : Nat} {ds : List Nat} (h : ∀ d ∈ ds, d ≤ 9) : Fine n (.str (numS ds)) := by
  refine fine_str ?_
  rw [← Array.all_toList, List.all_eq_true]
  intro c m
  obtain ⟨d, md, rfl⟩ := List.mem_map.mp (show c ∈ codes ds from m)
  have := h d md
  exact decide_eq_true (by omega)
theorem Fine.shaped {n : Nat} {d : PyData} (h : Fine n d) (l : n ≤ 64) : SeqAt.shaped d = true := by
  have e : decide (d.depth ≤ 64) = true := decide_eq_true (Nat.le_trans h.2 l)
  show (d.canLay0 && _) = true
  rw [e, Bool.and_true]
  exact h.1
theorem Fine.refl {n : Nat} {d : PyData} (h : Fine n d) : PyData.eqv d d = true := SeqAt.eqv_refl d h.1
theorem Fine.mono {n m : Nat} {d : PyData} (h : Fine n d) (l : n ≤ m) : Fine m d := ⟨h.1, Nat.le_trans h.2 l⟩
end Dv

/-! A list or a tuple, told by a letter; loops over it that may write elsewhere. -/
namespace Kd
open PySem PySem.Spec PyProof.Rows L2
/-- the list or (t) the tuple at a -/
def Is (K : PySem.W.Frag) (t : Bool) (H : Hp) (a : Addr) (xs : List V) : Prop := if t = true then SqT K H a xs else SqL K H a xs
theorem Is.keep {K : PySem.W.Frag} {t : Bool} {H H' : Hp} {a : Addr} {xs : List V} (s : Same H H') (h : Is K t H a xs) : Is K t H' a xs := by
  cases t
  · exact Hf.keepL s h
  · exact Hf.keepT s h
theorem Is.sq {K : PySem.W.Frag} {t : Bool} {H : Hp} {a : Addr} {xs : List V} (h : Is K t H a xs) : SqL K H a xs ∨ SqT K H a xs := by
  cases t
  · exact .inl h
  · exact .inr h
theorem Is.tup {K : PySem.W.Frag} {H : Hp} {a : Addr} {xs : List V} (h : SqT K H a xs) : Is K true H a xs := h
theorem Is.lst {K : PySem.W.Frag} {H : Hp} {a : Addr} {xs : List V} (h : SqL K H a xs) : Is K false H a xs := h
section
variable {X : Cx}
def iSeq (K : PySem.W.Frag) (tl : TE) : TI := fun σ H R => tl σ H fun x H1 => ∃ a xs t, x = .ref a ∧ Is K t H1 a xs ∧
  ∀ J G, Walk J xs.length G (YAt xs) → (∀ H', Is K t H' a xs → G H') → R J H1
theorem pi_seq {tg l : Expr} {tl : TE} (hl : PE X l tl) : PI X tg l (iSeq X.K tl) := by
  refine ⟨fun pins s σ H R I h => ?_⟩
  refine thn (hl.run pins s σ H _ I h) fun v s1 ⟨x, H1, I1, r1, q1⟩ => ?_
  obtain ⟨a, xs, t, e, hq, q⟩ := q1
  subst e
  cases r1
  cases t with
  | false =>
    have hq : SqL X.K H1 a xs := hq
    have q := q _ _ walk_list fun H' s => s
    obtain ⟨its, rv, p, hz⟩ := I1.list hq
    refine wpAny_pyIter_list p.isList ?_
    refine ⟨s1.heap.objs.size, [s1.heap.objs.size], _, _, H1, rfl, I1.kept (t' := s1.toks) fun b o e => Heap.get?_push_of_some _ e, turn_list a _, ⟨_, Heap.get?_push_size _ rfl, rfl, rfl⟩, fun b hb => ?_, q⟩
    have e : b = s1.heap.objs.size := by simpa using hb
    subst e
    exact I1.fpOk (Nat.le_refl _) (I1.hok.fresh (Nat.le_refl _))
  | true =>
    have hq : SqT X.K H1 a xs := hq
    have q := q _ _ walk_tup fun H' s => s
    obtain ⟨its, rv, p, hz⟩ := I1.tuple hq
    refine wpAny_pyIter_tuple (show s1.heap.IsTuple a its.toArray from p) ?_
    refine ⟨s1.heap.objs.size, [s1.heap.objs.size], _, _, H1, rfl, I1.kept (t' := s1.toks) fun b o e => Heap.get?_push_of_some _ e, turn_tuple a _, ⟨_, Heap.get?_push_size _ rfl, rfl, rfl⟩, fun b hb => ?_, q⟩
    have e : b = s1.heap.objs.size := by simpa using hb
    subst e
    exact I1.fpOk (Nat.le_refl _) (I1.hok.fresh (Nat.le_refl _))
end
end Kd

/-! Comprehensions whose items are told one by one. -/
namespace Lm
open PySem L2 Wm Dv
theorem list_is {α : Type} {ys zs : List α} (l : ys.length = zs.length) (h : ∀ (i : Nat) y, ys[i]? = some y → zs[i]? = some y) : ys = zs := by
  refine List.ext_getElem? fun i => ?_
  by_cases q : i < ys.length
  · rw [h i _ (List.getElem?_eq_getElem q), List.getElem?_eq_getElem q]
  · rw [List.getElem?_eq_none (by omega), List.getElem?_eq_none (by omega)]
theorem lc_map {K : PySem.W.Frag} {J : It} {n : Nat} {G : Hp → Prop} {xs : List V} (w : Walk J n G (YAt xs)) {g : TG} {te : TE} {vs : List Nat} {σ : L2.St} {H1 : Hp} {D : Addr} {Qd : Hp → Prop} (R : Nat → V → Hp → Prop)
    (mono : ∀ i y H H', R i y H → Kt K H H' → R i y H') (hD : H1 D = none) (hn : n ≤ 1000) (hG : ∀ H', Same H1 H' → G H')
    (hs : ∀ i x H', i < n → xs[i]? = some x → Same H1 H' → ∀ (Q : V → Hp → Prop) (Z : Hp → Prop), (∀ y H4, Same H' H4 → R i y H4 → Q y H4) → g x (wipe σ vs) H' fun σ2 H2 => wipe σ2 vs = wipe σ vs ∧ tYes σ2 H2 fun b H3 => if b = true then te σ2 H3 Q else Z H3)
    (hd : ∀ H ys, Same H1 H → H D = some (.lst ys) → ys.length = n → (∀ (i : Nat) y, ys[i]? = some y → R i y H) → Qd H) :
    ∃ W : Nat → Nat → Hp → Prop, (∃ m, W 0 m (upd H1 D (.lst []))) ∧ ∀ i m H, W i m H →
      (J.stop i H ∧ Qd H) ∨ (J.go i H ∧ ∃ Nx : Hp → Prop, (∀ H', Nx H' → ∃ m', m' < m ∧ W (i + 1) m' H') ∧ ∀ x H', J.yld i H x H' → g x (wipe σ vs) H' fun σ2 H2 => wipe σ2 vs = wipe σ vs ∧ tYes σ2 H2 fun b H3 =>
        if b = true then te σ2 H3 fun y H4 => ∃ acc, H4 D = some (.lst acc) ∧ acc.length < sizeLine ∧ Nx (upd H4 D (.lst (acc ++ [y]))) else Nx H3) := by
  refine lc_it (tt := tYes) w (fun i H => Same H1 H ∧ ∃ ys : List V, ys.length = i ∧ H D = some (.lst ys) ∧ ∀ j y, ys[j]? = some y → R j y H) ⟨same_new hD, [], rfl, upd_same, fun (j : Nat) (y : V) e => by simp at e⟩ (fun i H _ h => hG H h.1) (fun i x H H' hi hP hY => ?_) (fun H hP => ?_)
  · obtain ⟨sm, ys, el, hy, hR⟩ := hP
    obtain ⟨rfl, hx⟩ := hY
    refine hs i x H' hi hx sm _ _ (fun y H4 s4 r4 => ?_)
    · refine ⟨ys, s4 _ _ hy, by rw [el]; exact small1000 (by omega), same_mut (sm.trans s4) hD, ys ++ [y], by rw [List.length_append, el]; rfl, upd_same, fun j z hz => ?_⟩
      have k5 : Kt K H4 (upd H4 D (.lst (ys ++ [y]))) := Kt.lst (s4 _ _ hy)
      by_cases lj : j < ys.length
      · rw [List.getElem?_append_left lj] at hz
        exact mono _ _ _ _ (hR j z hz) ((Kt.same s4).trans k5)
      · rw [List.getElem?_append_right (by omega)] at hz
        have e0 : j - ys.length = 0 := by
          by_cases q : j - ys.length = 0
          · exact q
          · rw [List.getElem?_eq_none (by rw [List.length_singleton]; omega)] at hz
            cases hz
        rw [e0] at hz
        have ez : y = z := by simpa using hz
        have ej : j = i := by omega
        subst ez ej
        exact mono _ _ _ _ r4 k5
  · obtain ⟨sm, ys, el, hy, hR⟩ := hP
    exact hd H ys sm hy el hR
end Lm
namespace Kx
open PySem L2
def rLen (K : PySem.W.Frag) : List V → Hp → VK → Prop := fun xs H Q => ∃ p ys, xs = [.ref p] ∧ (SqL K H p ys ∨ SqT K H p ys) ∧ Q (.int (ys.length : Nat)) H
def rTup (K : PySem.W.Frag) : List V → Hp → VK → Prop := fun xs H Q => ∃ a ys, xs = [.ref a] ∧ SqT K H a ys ∧ Q (.ref a) H
def rTupOf (K : PySem.W.Frag) : List V → Hp → VK → Prop := fun xs H Q => ∃ p ys, xs = [.ref p] ∧ ((SqL K H p ys ∧ ∀ l, H l = none → Q (.ref l) (upd H l (.tup ys))) ∨ (SqT K H p ys ∧ Q (.ref p) H))
end Kx

/-! A method with keywords alone; a def that may raise, where it does not. -/
namespace Mk1
open PySem PySem.Spec PyProof.Rows L2
theorem passF {X : Cx} : Passes (L2.CX X.prog X.w) X (fun _ _ _ => False) := by
  intro pins σ H s e s' I h
  obtain ⟨_, _, _, _, _, _, _, _, _, _, _, _, z⟩ := h
  exact z.elim
section
variable {X : Cx} {CX : CXT} {k : Nat} {f C : Addr} {fd : FuncData} {ps ks : List Str} {sp : Sp} {E : XK} {m : Str} {pos apos : Pos} {o : Expr} {kws : List Keyword} {ta : TE} {tk : TA} {g : List Value → List Value → List Value} {gV : List V → List V → List V} {pl : Sem Bool}
def tMethN (C : Addr) (m : Str) (n : Nat) (sp : Sp) (gV : List V → List V → List V) (E : XK) (ta : TE) (tk : TA) : TE := fun σ H Q => ta σ H fun x H1 => ∃ a dx fs, x = .ref a ∧ H1 a = some (.ins C dx fs) ∧ fs.lookup m = none ∧
  tk σ H1 fun zs H2 => zs.length = n ∧ sp (gV [x] zs) H2 Q E
theorem pe_methN (ho : PE X o ta) (c : Cls X.K C) (hm : Meth X.K C m f) (F : FnOk X.prog X.w X.K X.mg X.base CX k f fd ps sp) (hr : Room k X.A) (hb : KBn X.K fd ps 1 ks g gV) (hx : Passes CX X E) (hk : PK X kws tk)
    (h1 : (backToKw pos (keywordEach kws X.env)).all (·.1.isSome) = true := by rfl) (h2 : (backToKw pos (keywordEach kws X.env)).filterMap (·.1) = ks := by rfl)
    (h3 : ((backTo pos (starEach [] X.env)).any (·.1) || (backToKw pos (keywordEach kws X.env)).any (·.1.isNone)) = false := by rfl)
    (h4 : eval (.Call (.Attribute o m apos) [] kws pos) X.env = (do
      let v ← eval o X.env
      standAt apos.atName
      let (a, b) ← holding [v] (getMethod v m pl)
      callWith pos a b (backTo pos (starEach [] X.env)) (backToKw pos (keywordEach kws X.env))) := by rfl) :
    PE X (.Call (.Attribute o m apos) [] kws pos) (tMethN C m ks.length sp gV E ta tk) := by
  constructor
  intro pins s σ H Q I h
  refine PySem.W.methodCall_KW (pl := pl) (thn (ho.run pins s σ H _ I h) fun u s1 w => ?_) h4
  obtain ⟨x, H1, I1, rx, a, dx, fs, ex, ea, l, q⟩ := w
  subst ex
  cases (show u = Value.ref a from rx)
  refine getmeth_ok I1 ea c hm l ?_
  refine PySem.W.callWith_KW0 (first := [.ref a]) (h₀ := X.base) I.ok.mod.kin hm.kp h1 (thn (hk.run pos pins s1 σ H1 _ I1 q) fun ws s2 w2 => ?_) h3
  obtain ⟨zs, H2, I2, rz, l2, q2⟩ := w2
  refine ⟨I2.kIn, ?_⟩
  rw [h2]
  exact run_fnN (us := [.ref a]) (vs := [.ref a]) F hr hb hx I2 (.cons rfl .nil) rz rfl l2 q2
end
end Mk1

/-! Operators of own classes, by values: ==, <, .. by __eq__, __lt__, ..; |, &, - by __or__, ..; in by __contains__; len by __len__. -/
namespace Ow
open PySem PySem.Spec PyProof.Rows L2
section
variable {X : Cx} {CX : CXT} {C g : Addr} {n : Nat} {sp : Sp} {E : XK}
theorem ins_at {pins : List (Addr × Obj)} {σ : L2.St} {H : Hp} {s : Shared} {a C dx : Addr} {fs : List (Str × V)} (I : Inv X pins σ H s) (e : H a = some (.ins C dx fs)) : ∃ ox od, PySem.W.InstAt s.heap a ox C od := by
  obtain ⟨mA, O, _⟩ := ins_get I.hok e
  obtain ⟨od, J, _⟩ := O.look
  exact ⟨_, _, J⟩
/-- x op y by the own def of x's class at C; y's class not below C -/
def rCmp (K : PySem.W.Frag) (C : Addr) (sp : Sp) (E : XK) : R2 := fun x y H Q => ∃ a dx fs t, x = .ref a ∧ H a = some (.ins C dx fs) ∧ TyX K H y t ∧ PySem.W.notFirst K C t = true ∧ sp [x, y] H Q E
theorem op_cmp {op : CmpOp} (hop : ∀ a b, compareOp op a b = richCompare op a b) (hs : PySem.W.findIn X.K (.ref C) (cmpInfo op).2.1 = some (some (.ref g))) (hf : PySem.W.isFn X.K (.ref g) = true) (F : FnR X.prog X.w X.K X.mg X.base CX n g sp)
    (hr : Room n X.A) (hx : Passes CX X E) : OpR X (compareOp op) (rCmp X.K C sp E) := by
  intro pins s σ H x y v u Q I rx ry h
  obtain ⟨a, dx, fs, t, rfl, ha, ty, hn, q⟩ := h
  cases (show v = Value.ref a from rx)
  obtain ⟨ox, od, J⟩ := ins_at I ha
  obtain ⟨P, k, hp, _⟩ := kit_of I ry ty
  obtain ⟨m, hF⟩ := I.fr
  rw [hop]
  refine PySem.W.cmp_K (op := op) (tb := t) hr.units0 hF I.ok.mod.kin J (k.ty _ _ I.kIn hp) hn hs hf ?_
  refine wpAny_mono (wpAny_call (run_fnR (us := [.ref a, u]) (vs := [.ref a, y]) F hr hx I (.cons rfl (.cons ry .nil)) q)) (fun w s' z => ?_) fun _ _ x => x
  obtain ⟨z', H', I', rz, qz⟩ := z
  exact SlX.cmpback rz ⟨z', H', I', rz, qz⟩
/-- x op y, both of the class at C -/
def rBin (C : Addr) (sp : Sp) (E : XK) : R2 := fun x y H Q => ∃ a dx fs b dy gs, x = .ref a ∧ y = .ref b ∧ H a = some (.ins C dx fs) ∧ H b = some (.ins C dy gs) ∧ sp [x, y] H Q E
theorem op_bin {op : Operator} (hc : PySem.W.selfFirst X.K C = true) (hs : PySem.W.findIn X.K (.ref C) (PySem.dunder op.info.2) = some (some (.ref g))) (hf : PySem.W.isFn X.K (.ref g) = true) (F : FnR X.prog X.w X.K X.mg X.base CX n g sp)
    (hr : Room n X.A) (hx : Passes CX X E) : OpR X (binaryOp op) (rBin C sp E) := by
  intro pins s σ H x y v u Q I rx ry h
  obtain ⟨a, dx, fs, b, dy, gs, rfl, rfl, ha, hb, q⟩ := h
  cases (show v = Value.ref a from rx)
  cases (show u = Value.ref b from ry)
  obtain ⟨ox, od, J⟩ := ins_at I ha
  obtain ⟨oy, oe, J'⟩ := ins_at I hb
  obtain ⟨m, hF⟩ := I.fr
  refine PySem.W.binop_K (op := op) hF I.ok.mod.kin J J'.type hc hs hf ?_
  refine wpAny_mono (wpAny_call (run_fnR (us := [.ref a, .ref b]) (vs := [.ref a, .ref b]) F hr hx I (.cons rfl (.cons rfl .nil)) q)) (fun w s' z => ?_) fun _ _ x => x
  obtain ⟨z', H', I', rz, qz⟩ := z
  exact SlX.cmpback rz ⟨z', H', I', rz, qz⟩
/-- y in x, by __contains__ (its answer a bool) -/
def rIn (C : Addr) (sp : Sp) (E : XK) (neg : Bool) : R2 := fun y x H Q => ∃ a dx fs, x = .ref a ∧ H a = some (.ins C dx fs) ∧ sp [x, y] H (fun z H' => ∃ c, z = .bl c ∧ Q (.bl (if neg then !c else c)) H') E
theorem op_in (hs : PySem.W.findIn X.K (.ref C) "__contains__" = some (some (.ref g))) (hf : PySem.W.isFn X.K (.ref g) = true) (F : FnR X.prog X.w X.K X.mg X.base CX n g sp)
    (hr : Room n X.A) (hx : Passes CX X E) : OpR X (compareOp .In) (rIn C sp E false) := by
  intro pins s σ H y x u v Q I ry rx h
  obtain ⟨a, dx, fs, rfl, ha, q⟩ := h
  cases (show v = Value.ref a from rx)
  obtain ⟨ox, od, J⟩ := ins_at I ha
  obtain ⟨m, hF⟩ := I.fr
  refine PySem.W.in_K hF I.ok.mod.kin J hs hf ?_
  refine wpAny_mono (wpAny_call (run_fnR (us := [.ref a, u]) (vs := [.ref a, y]) F hr hx I (.cons rfl (.cons ry .nil)) q)) (fun w s' z => ?_) fun _ _ x => x
  obtain ⟨z', H', I', rz, c, rfl, qz⟩ := z
  cases (show w = Value.bool c from rz)
  exact wpAny_truthy_bool ⟨.bl c, H', I', rfl, qz⟩
theorem op_notIn (hs : PySem.W.findIn X.K (.ref C) "__contains__" = some (some (.ref g))) (hf : PySem.W.isFn X.K (.ref g) = true) (F : FnR X.prog X.w X.K X.mg X.base CX n g sp)
    (hr : Room n X.A) (hx : Passes CX X E) : OpR X (compareOp .NotIn) (rIn C sp E true) := by
  intro pins s σ H y x u v Q I ry rx h
  obtain ⟨a, dx, fs, rfl, ha, q⟩ := h
  cases (show v = Value.ref a from rx)
  obtain ⟨ox, od, J⟩ := ins_at I ha
  obtain ⟨m, hF⟩ := I.fr
  refine PySem.W.notIn_K hF I.ok.mod.kin J hs hf ?_
  refine wpAny_mono (wpAny_call (run_fnR (us := [.ref a, u]) (vs := [.ref a, y]) F hr hx I (.cons rfl (.cons ry .nil)) q)) (fun w s' z => ?_) fun _ _ x => x
  obtain ⟨z', H', I', rz, c, rfl, qz⟩ := z
  cases (show w = Value.bool c from rz)
  exact wpAny_truthy_bool ⟨.bl (!c), H', I', rfl, qz⟩
/-- len(x), by __len__ -/
def rLen (C : Addr) (sp : Sp) (E : XK) : List V → Hp → VK → Prop := fun xs H Q => ∃ a dx fs, xs = [V.ref a] ∧ H a = some (.ins C dx fs) ∧ sp [.ref a] H (fun z H' => ∃ i : Int, z = .int i ∧ 0 ≤ i ∧ i < 2 ^ 63 ∧ Q (.int i) H') E
theorem call_len (hs : PySem.W.findIn X.K (.ref C) "__len__" = some (some (.ref g))) (hf : PySem.W.isFn X.K (.ref g) = true) (F : FnR X.prog X.w X.K X.mg X.base CX n g sp)
    (hr : Room (n + 1) X.A) (hx : Passes CX X E) : CallR X (.builtin "len") (rLen C sp E) := by
  intro pins s σ H xs us Q I r h
  obtain ⟨a, dx, fs, rfl, ha, q⟩ := h
  obtain ⟨u, rfl, ru⟩ := r.one
  cases (show u = Value.ref a from ru)
  obtain ⟨ox, od, J⟩ := ins_at I ha
  obtain ⟨m, hF⟩ := I.fr
  refine PySem.W.len_K hF I.ok.mod.kin J hs hf (wpAny_mono (wpAny_call (SlX.run_at (us := [.ref a]) (ws := [.ref a]) F hr.in1 I.env0.in1 hx I (.cons rfl .nil) q)) (fun w s' z => ?_) fun _ _ x => x)
  obtain ⟨z', H', I', rz, i, rfl, h0, h1, qz⟩ := z
  obtain ⟨t, e⟩ := (show ∃ t, w = Value.int i t from rz)
  cases e
  exact ⟨⟨h0, h1⟩, .int i, H', I'.tok _, ⟨_, rfl⟩, qz⟩
end
end Ow

/-! The source of draws as a list: its cells, a place, the wide number, the seed, the count. -/
namespace Wm
open PySem L2
/-- the source's list at b, its cells at c -/
def Cl2 (H : Hp) (b c : Addr) : Prop := ∃ k x y z : Int, H b = some (.lst [.ref c, .int k, .int x, .int y, .int z])
structure Bt (b : Addr) (H H' : Hp) : Prop where
  keep : ∀ p o, p ≠ b → H p = some o → H' p = some o
  cel : ∀ c, Cl2 H b c → Cl2 H' b c
instance {b : Addr} {H H' : Hp} : CoeFun (Bt b H H') (fun _ => ∀ p o, p ≠ b → H p = some o → H' p = some o) := ⟨Bt.keep⟩
theorem Bt.refl (b : Addr) (H : Hp) : Bt b H H := ⟨fun _ _ _ h => h, fun _ h => h⟩
theorem Bt.trans {b : Addr} {H H1 H2 : Hp} (x : Bt b H H1) (y : Bt b H1 H2) : Bt b H H2 := ⟨fun p o n h => y.keep p o n (x.keep p o n h), fun c h => y.cel c (x.cel c h)⟩
theorem Bt.of {b : Addr} {H H' : Hp} (s : Same H H') : Bt b H H' := ⟨fun p o _ h => s p o h, fun _ ⟨x, k, m, z, h⟩ => ⟨x, k, m, z, s _ _ h⟩⟩
theorem Bt.set {b c : Addr} {H : Hp} {k x y z k' x' y' z' : Int} (hb : H b = some (.lst [.ref c, .int k, .int x, .int y, .int z])) : Bt b H (upd H b (.lst [.ref c, .int k', .int x', .int y', .int z'])) :=
  ⟨fun p u n h => by
    rw [upd_ne n]
    exact h, fun c2 ⟨a1, a2, a3, a4, h⟩ => by
    rw [hb] at h
    have h := Option.some.inj h
    injection h with h
    injection h with h1 h
    injection h1 with h1
    subst h1
    exact ⟨k', x', y', z', upd_same⟩⟩
/-- the source of draws after at most n of them -/
def Bg (H : Hp) (b : Addr) (n : Nat) : Prop :=
  ∃ (c : Addr) (k x y z : Int) (ns : List Int), H b = some (.lst [.ref c, .int k, .int x, .int y, .int z]) ∧ H c = some (.lst (ns.map V.int)) ∧ 0 ≤ k ∧ 0 ≤ x ∧ 0 ≤ y ∧ y < 2147483648 ∧ 0 ≤ z ∧ z ≤ (n : Int)
theorem bg_ne {H : Hp} {b c : Addr} {k x y z : Int} {ns : List Int} (hb : H b = some (.lst [.ref c, .int k, .int x, .int y, .int z])) (hc : H c = some (.lst (ns.map V.int))) : c ≠ b := by
  intro e
  subst e
  rw [hb] at hc
  have q := Option.some.inj hc
  have q2 : ([.ref c, .int k, .int x, .int y, .int z] : List V) = ns.map V.int := by injection q
  cases ns with
  | nil => simp at q2
  | cons u r => simp at q2
theorem Bg.mono {H : Hp} {b : Addr} {n m : Nat} (h : Bg H b n) (l : n ≤ m) : Bg H b m := by
  obtain ⟨c, k, x, y, z, ns, h1, h2, h3, h4, h5, h6, h7, h8⟩ := h
  exact ⟨c, k, x, y, z, ns, h1, h2, h3, h4, h5, h6, h7, by omega⟩
theorem Bg.keep {H H' : Hp} {b : Addr} {n : Nat} (h : Bg H b n) (s : Same H H') : Bg H' b n := by
  obtain ⟨c, k, x, y, z, ns, h1, h2, h3⟩ := h
  exact ⟨c, k, x, y, z, ns, s _ _ h1, s _ _ h2, h3⟩
theorem Bg.off {H : Hp} {b D : Addr} {n : Nat} (h : Bg H b n) (f : H D = none) : D ≠ b := by
  obtain ⟨c, k, x, y, z, ns, h1, h2, h3⟩ := h
  exact (ne_of_none h1 f).symm
theorem Cl2.uniq {H : Hp} {b c d : Addr} (h : Cl2 H b c) (g : Cl2 H b d) : c = d := by
  obtain ⟨x, k, m, z, h⟩ := h
  obtain ⟨x', k', m', z', g⟩ := g
  rw [h] at g
  have g := Option.some.inj g
  injection g with g
  injection g with g1 g
  injection g1
theorem Bt.put {b D : Addr} {H H' : Hp} {o : HO} (e : Bt b H H') (n : H D = none) : Bt b H (upd H' D o) := by
  refine ⟨fun p u pb h => ?_, fun c h => ?_⟩
  · rw [upd_ne (ne_of_none h n)]
    exact e.keep p u pb h
  · have h0 := h
    obtain ⟨x, k, m, z, h⟩ := h
    obtain ⟨x', k', m', z', g⟩ := e.cel c h0
    exact ⟨x', k', m', z', by rw [upd_ne (ne_of_none h n)]; exact g⟩
/-- a list that is new since is filled: the source stays -/
theorem Bg.put {b D : Addr} {H H' : Hp} {o : HO} {n m : Nat} (bag : Bg H b n) (f : H D = none) (e : Bt b H H') (bag2 : Bg H' b m) : Bg (upd H' D o) b m := by
  obtain ⟨c, k, x, y, z, ns, h1, h2, h3⟩ := bag
  obtain ⟨c', k', x', y', z', ns', g1, g2, g3⟩ := bag2
  have ec : c = c' := Cl2.uniq (e.cel c ⟨k, x, y, z, h1⟩) ⟨k', x', y', z', g1⟩
  subst ec
  exact ⟨c, k', x', y', z', ns', by rw [upd_ne (ne_of_none h1 f)]; exact g1, by rw [upd_ne (ne_of_none h2 f)]; exact g2, g3⟩
end Wm

/-! set(xs) of a list or a tuple of ints, as a set object. -/
namespace Si
open PySem PySem.Spec PyProof.Rows
section
variable {prog : Program} {w : World} {A : Around} {E : Value → Shared → Prop} {s : Shared}
theorem code_led1 (a : Value) {Q₁ : Value → Shared → Prop}
    (h : Q₁ (.ref s.heap.objs.size) { s with heap := s.heap.push { cls := .type "set", dict := none, data := .set #[] 0 (.fresh 0 0 (!w.params.followText "set-order")) } }) :
    codeAny (model prog w) A (.call (.builtin "set.__new__") ⟨[.type "set", a], []⟩) (wants Q₁ E) s := by
  refine codeAny_of_tree ?_
  show wpAny _ A.in1 (do checkBuiltinCall "set.__new__" ⟨[.type "set", a], []⟩; again (.builtin "set.__new__" ⟨[.type "set", a], []⟩)) _ _ s
  refine wpAny_bind (wpAny_of_eq (F.newCall_set_1 a) (wpAny_pure ⟨plainId_quiet F.plain_set_new _, codeAny_builtin F.entry_set_new ?_⟩))
  rw [Around.under_plainId F.plain_set_new _]
  unfold Builtin.«set.__new__» Builtin.Frozenset.newClass
  have hsub := sub_set_self
  obtain ⟨hp, g, d, tk, os⟩ := s
  dsimp only
  wp_walk
  refine wpAny_askSetting (wpAny_pure ?_)
  dsimp only
  simp only [newObj]
  refine wpAny_bind (wpAny_alloc (wpAny_pure ?_))
  exact wpAny_pure h
theorem ints_len : ∀ {vs : List Value} {xs : List Int}, IntsAre vs xs → vs.length = xs.length
  | _, _, .nil => rfl
  | _, _, .cons _ _ h => by rw [List.length_cons, List.length_cons, ints_len h]
theorem ints_at : ∀ {vs : List Value} {xs : List Int}, IntsAre vs xs → ∀ (i : Nat) v, vs[i]? = some v → ∃ x t, xs[i]? = some x ∧ v = .int x t
  | _, _, .nil, i, v, e => by simp at e
  | _, _, .cons x t h, 0, v, e => ⟨x, t, rfl, by simpa using e.symm⟩
  | _, _, .cons _ _ h, i + 1, v, e => by
    obtain ⟨x, t, e1, e2⟩ := ints_at h i v (by simpa using e)
    exact ⟨x, t, by simpa using e1, e2⟩
abbrev so (led : Bool) : Obj := { cls := .type "set", dict := none, data := .set #[] 0 (.fresh 0 0 led) }
theorem fill {R : Result → Shared → Prop} {I : Addr} {fp wr : List Addr} {G : Array GenState → Array GenState → Prop} {n : Nat} {P : Nat → Value → Prop} {St : Nat → Shared → Prop}
    (W : WalksS prog w A.in1 I fp wr G n P St) (S : Addr) (hSf : S ∉ fp) (xs : List Int) (hsz : xs.length = n) (hb : n + 1 < scanBound) (hval : ∀ i v, P i v → ∃ x t, xs[i]? = some x ∧ v = .int x t) :
    ∀ (k i : Nat) (s : Shared), n - i = k → i ≤ n → St i s → (∃ c, c ≤ i ∧ L2.SetR w s.heap S (fun y => decide (y ∈ xs.take i)) c) →
      (∀ s' c, Moved (S :: wr) G s s' → c ≤ n → L2.SetR w s'.heap S (fun y => decide (y ∈ xs.take n)) c → R (.ok (.ret .none)) s') →
      codeAny (model prog w) A (.builtin "set.update.loop" ⟨[.ref S, .ref I], []⟩) R s := by
  have nw : S ∉ wr := fun h => hSf (W.sub _ h)
  have more : ∀ b ∈ wr, b ∈ S :: wr := fun b hb => List.mem_cons_of_mem _ hb
  intro k
  induction k with
  | zero =>
    intro i s hk hi st ⟨c, hc, hS⟩ hR
    have e : i = n := by omega
    subst e
    refine codeAny_builtin PyProof.Rows.F.entry_set_update_loop ?_
    rw [Around.under_plainId PyProof.Rows.F.plain_set_update_loop _]
    show wpAny _ A.in1 (pyNext (.ref I) >>= _) _ _ s
    refine wpAny_bind (W.done s _ _ st fun s' hm => ?_)
    show wpAny _ A.in1 (ret Value.none) _ _ s'
    exact wpAny_pure (hR s' c (hm.mono more) hc (L2.SetR.at hS fun o e => hm.heap S o nw e))
  | succ k ih =>
    intro i s hk hi st ⟨c, hc, hS⟩ hR
    have lt : i < n := by omega
    refine codeAny_builtin PyProof.Rows.F.entry_set_update_loop ?_
    rw [Around.under_plainId PyProof.Rows.F.plain_set_update_loop _]
    show wpAny _ A.in1 (pyNext (.ref I) >>= _) _ _ s
    refine wpAny_bind (W.item i s _ _ lt st fun v s' hP st' hm => ?_)
    obtain ⟨x, t, hx, rfl⟩ := hval i v hP
    have hS1 := L2.SetR.at (h' := s'.heap) hS fun o e => hm.heap S o nw e
    show wpAny _ A.in1 (holding [Value.int x t] (setAdd S (.int x t)) >>= _) _ _ s'
    refine wpAny_bind (wpAny_holding ?_)
    unfold setAdd
    refine wpAny_holding ?_
    refine wpAny_bind ((PySem.intKind prog w).pyHash (k := x) (intKind_is _ _ _ _) ?_)
    refine L2.setR_add_hashed (s := { s' with toks := s'.toks + 1 }) hS1 (by omega) fun g same hS2 => ?_
    have hS3 := L2.SetR.congr (S' := fun y => decide (y ∈ xs.take (i + 1))) hS2 (fun y => by
      rw [List.take_add_one, hx]
      simp [List.mem_append])
    refine wpAny_pure ⟨plainId_quiet PyProof.Rows.F.plain_set_update_loop _, ih (i + 1) _ (by omega) lt (W.frame _ s' _ _ st' (Nat.le_succ _) fun b hb o e => ?_) ⟨_, (by split <;> omega), hS3⟩ fun s2 c2 m2 hc2 hS4 => ?_⟩
    · rw [same.2 b (fun h : b = S => hSf (by rw [← h]; exact hb))]
      exact e
    · refine hR s2 c2 (Moved.trans W.gtrans ((hm.mono more).then_heap (Nat.le_succ _) fun b o hb e => ?_) m2) hc2 hS4
      rw [same.2 b (fun h : b = S => hb (by rw [h]; exact List.mem_cons_self))]
      exact e
set_option maxHeartbeats 3200000 in
theorem set_ints {l : Addr} {its : Array Value} {xs : List Int} {Q : Value → Shared → Prop} (hh : A.handled = none) (hl : s.heap.IsList l its) (hi : PyProof.Rows.IntsAre its.toList xs) (hb : xs.length + 1 < scanBound)
    (q : ∀ (g : Heap) (tk c : Nat), c ≤ xs.length → L2.SetR w g s.heap.objs.size (fun y => decide (y ∈ xs)) c → (∀ b o, b < s.heap.objs.size → s.heap.get? b = some o → g.get? b = some o) → Q (.ref s.heap.objs.size) { s with heap := g, toks := tk }) :
    wpAny (model prog w) A (call (.type "set") [.ref l]) Q E s := by
  obtain ⟨c0, tl0, m0⟩ := PySem.F.called_set.mro
  have a1 := PySem.F.called_set.made
  have a2 := PySem.F.called_set.sub
  refine wpAny_call (codeAny_of_tree ?_)
  show wpAny _ _ (callAny (.type "set") _) _ _ _
  refine wpAny_pure ⟨Code.quiet_builtin _ (by decide +kernel), codeAny_builtin PySem.F.entry_type_call ?_⟩
  rw [Around.under_plain (weight_type_call_type "set" [.ref l] []) rfl]
  have a3 := PySem.F.called_set.notType
  have a4 := PySem.F.called_set.canCreate
  have a5 := PySem.F.typeCall_set_1 (.ref l)
  repeat (any_goals (first | assumption | wp_step))
  refine codeAny_mono (code_led1 (.ref l) (E := E) (Q₁ := fun ob s₁ => ob = .ref s.heap.objs.size ∧ s₁ = { s with heap := s.heap.push { cls := .type "set", dict := none, data := .set #[] 0 (.fresh 0 0 (!w.params.followText "set-order")) } }) ⟨rfl, rfl⟩) fun r s₁ hr => ?_
  cases r with
  | error e => exact hr
  | ok fl =>
    cases fl with
    | ret ob =>
      obtain ⟨rfl, rfl⟩ := hr
      generalize hso : ({ cls := .type "set", dict := none, data := .set #[] 0 (.fresh 0 0 (!w.params.followText "set-order")) } : Obj) = so
      have hfr : so.isFreed = false := by rw [← hso]; rfl
      have b1 : (s.heap.push so).get? s.heap.objs.size = some so := Heap.get?_push_size _ hfr
      have b2 : Shared.TypeIs { s with heap := s.heap.push so } (.ref s.heap.objs.size) "set" := ⟨_, b1, by rw [← hso]⟩
      have b3 := PySem.F.called_set.init.lookup
      have b4 := PySem.F.called_set.init.bind (.ref s.heap.objs.size)
      repeat (any_goals (first | assumption | wp_step))
      refine codeAny_mono (codeAny_call_builtin (R := wants (fun r s₂ => r = .none ∧ ∃ g tk c, s₂ = { s with heap := g, toks := tk } ∧ c ≤ xs.length ∧ L2.SetR w g s.heap.objs.size (fun y => decide (y ∈ xs)) c ∧
          (∀ b o, b < s.heap.objs.size → s.heap.get? b = some o → g.get? b = some o)) E) PySem.F.called_set.init.plain PySem.F.entry_set_init (check_set_init_1 b2 ?_)) fun r₂ s₂ hr₂ => ?_
      · obtain ⟨ol, hol, hcl, nl, hdl⟩ := hl
        obtain ⟨ocls, odict, odata, oslots⟩ := ol
        simp only at hcl hdl
        subst hcl hdl
        have hol' : (s.heap.push so).get? l = some { cls := .type "list", dict := odict, data := .seq its nl, slots := oslots } := Heap.get?_push_of_some _ hol
        have c1 := PySem.F.sub_list_set
        have c2 := PySem.F.sub_list_frozenset
        have c3 : (Value.type "list" == Value.type "dict") = false := by decide
        have hl1 : (s.heap.push so).IsList l its := ⟨_, hol', rfl, nl, rfl⟩
        unfold Builtin.«set.__init__» noKeywords Builtin.Frozenset.updateFrom
        generalize hPI : pyIter = PI
        have ll : l < s.heap.objs.size := Heap.lt_size hol
        have nI : ∀ ob : Obj, l ≠ (s.heap.push ob).objs.size := fun ob => by
          rw [Heap.size_push]
          exact Nat.ne_of_lt (Nat.lt_succ_of_lt ll)
        have nS : ∀ ob : Obj, s.heap.objs.size ∉ [(s.heap.push ob).objs.size, l] := fun ob => by
          rw [Heap.size_push]
          simp only [List.mem_cons, List.mem_singleton, List.not_mem_nil, or_false, not_or]
          exact ⟨Nat.ne_of_lt (Nat.lt_succ_self _), Nat.ne_of_gt ll⟩
        have nB : ∀ (ob : Obj) (b : Addr), b < s.heap.objs.size → b ≠ (s.heap.push ob).objs.size := fun ob b lb => by
          rw [Heap.size_push]
          exact Nat.ne_of_lt (Nat.lt_succ_of_lt lb)
        subst hso
        wp_walk
        subst hPI
        refine wpAny_pyIter_list hl1 ?_
        refine wpAny_bind (wpAny_runValue ?_)
        have hh3 : A.in1.in1.in1.handled = none := by simp [hh]
        have sz : xs.length = its.size := by rw [← ints_len hi, Array.length_toList]
        have hval : ∀ (i : Nat) (v : Value), its[i]? = some v → ∃ x t, xs[i]? = some x ∧ v = .int x t := fun i v hv => ints_at hi i v (by rw [Array.getElem?_toList]; exact hv)
        refine fill ((Walks.list hh3 _ l (nI (so (!w.params.followText "set-order"))) its).toS) s.heap.objs.size (nS (so (!w.params.followText "set-order"))) xs sz (by rw [← sz]; exact hb) hval (its.size - 0) 0 _ (by omega) (Nat.zero_le _)
          ⟨⟨_, Heap.get?_push_size _ rfl, rfl, rfl⟩, (hl1.push _)⟩ ?hS0 ?hR
        case hS0 =>
          exact ⟨0, Nat.le_refl _, L2.SetR.congr (L2.SetR.at (L2.setR_fresh w) fun o e => Heap.get?_push_of_some _ e) (fun _ => by simp)⟩
        case hR =>
          intro s' c' hm hc' hS'
          obtain ⟨g, g', d', tk', os'⟩ := s'
          have eg : g' = s.gens := hm.gens
          have ed : d' = s.drawn := hm.drawn
          have eo : os' = s.os := hm.os
          subst eg ed eo
          show wpAny _ _ _ _ _ _
          refine wpAny_pure ?_
          show wpAny _ _ (ret Value.none) _ _ _
          rw [← sz, List.take_length] at hS'
          rw [← sz] at hc'
          refine wpAny_pure ⟨rfl, g, tk', c', rfl, hc', hS', fun b o lb e => ?_⟩
          have n1 : b ≠ s.heap.objs.size := Nat.ne_of_lt lb
          have n2 := nB (so (!w.params.followText "set-order")) b lb
          exact hm.heap b o (by simp only [List.mem_cons, List.mem_singleton, List.not_mem_nil, or_false, not_or]; exact ⟨n1, n2⟩) (Heap.get?_push_of_some _ (Heap.get?_push_of_some _ e))
      · cases r₂ with
        | error e => exact hr₂
        | ok fl₂ =>
          cases fl₂ with
          | ret r =>
            obtain ⟨rfl, g, tk, c', rfl, hc', hS', hk'⟩ := hr₂
            repeat (any_goals (first | assumption | wp_step))
            exact q _ _ _ hc' hS' hk'
          | _ => exact hr₂.elim
    | _ => exact hr.elim
set_option maxHeartbeats 3200000 in
theorem set_intsT {l : Addr} {its : Array Value} {xs : List Int} {Q : Value → Shared → Prop} (hh : A.handled = none) (hl : s.heap.IsTuple l its) (hi : PyProof.Rows.IntsAre its.toList xs) (hb : xs.length + 1 < scanBound)
    (q : ∀ (g : Heap) (tk c : Nat), c ≤ xs.length → L2.SetR w g s.heap.objs.size (fun y => decide (y ∈ xs)) c → (∀ b o, b < s.heap.objs.size → s.heap.get? b = some o → g.get? b = some o) → Q (.ref s.heap.objs.size) { s with heap := g, toks := tk }) :
    wpAny (model prog w) A (call (.type "set") [.ref l]) Q E s := by
  obtain ⟨c0, tl0, m0⟩ := PySem.F.called_set.mro
  have a1 := PySem.F.called_set.made
  have a2 := PySem.F.called_set.sub
  refine wpAny_call (codeAny_of_tree ?_)
  show wpAny _ _ (callAny (.type "set") _) _ _ _
  refine wpAny_pure ⟨Code.quiet_builtin _ (by decide +kernel), codeAny_builtin PySem.F.entry_type_call ?_⟩
  rw [Around.under_plain (weight_type_call_type "set" [.ref l] []) rfl]
  have a3 := PySem.F.called_set.notType
  have a4 := PySem.F.called_set.canCreate
  have a5 := PySem.F.typeCall_set_1 (.ref l)
  repeat (any_goals (first | assumption | wp_step))
  refine codeAny_mono (code_led1 (.ref l) (E := E) (Q₁ := fun ob s₁ => ob = .ref s.heap.objs.size ∧ s₁ = { s with heap := s.heap.push { cls := .type "set", dict := none, data := .set #[] 0 (.fresh 0 0 (!w.params.followText "set-order")) } }) ⟨rfl, rfl⟩) fun r s₁ hr => ?_
  cases r with
  | error e => exact hr
  | ok fl =>
    cases fl with
    | ret ob =>
      obtain ⟨rfl, rfl⟩ := hr
      generalize hso : ({ cls := .type "set", dict := none, data := .set #[] 0 (.fresh 0 0 (!w.params.followText "set-order")) } : Obj) = so
      have hfr : so.isFreed = false := by rw [← hso]; rfl
      have b1 : (s.heap.push so).get? s.heap.objs.size = some so := Heap.get?_push_size _ hfr
      have b2 : Shared.TypeIs { s with heap := s.heap.push so } (.ref s.heap.objs.size) "set" := ⟨_, b1, by rw [← hso]⟩
      have b3 := PySem.F.called_set.init.lookup
      have b4 := PySem.F.called_set.init.bind (.ref s.heap.objs.size)
      repeat (any_goals (first | assumption | wp_step))
      refine codeAny_mono (codeAny_call_builtin (R := wants (fun r s₂ => r = .none ∧ ∃ g tk c, s₂ = { s with heap := g, toks := tk } ∧ c ≤ xs.length ∧ L2.SetR w g s.heap.objs.size (fun y => decide (y ∈ xs)) c ∧
          (∀ b o, b < s.heap.objs.size → s.heap.get? b = some o → g.get? b = some o)) E) PySem.F.called_set.init.plain PySem.F.entry_set_init (check_set_init_1 b2 ?_)) fun r₂ s₂ hr₂ => ?_
      · obtain ⟨ol, hol, hcl, nl, hdl⟩ := hl
        obtain ⟨ocls, odict, odata, oslots⟩ := ol
        simp only at hcl hdl
        subst hcl hdl
        have hol' : (s.heap.push so).get? l = some { cls := .type "tuple", dict := odict, data := .seq its nl, slots := oslots } := Heap.get?_push_of_some _ hol
        have c1 := PySem.F.sub_tuple_set
        have c2 := PySem.F.sub_tuple_frozenset
        have c3 : (Value.type "tuple" == Value.type "dict") = false := by decide
        have hl1 : (s.heap.push so).IsTuple l its := ⟨_, hol', rfl, nl, rfl⟩
        unfold Builtin.«set.__init__» noKeywords Builtin.Frozenset.updateFrom
        generalize hPI : pyIter = PI
        have ll : l < s.heap.objs.size := Heap.lt_size hol
        have nI : ∀ ob : Obj, l ≠ (s.heap.push ob).objs.size := fun ob => by
          rw [Heap.size_push]
          exact Nat.ne_of_lt (Nat.lt_succ_of_lt ll)
        have nS : ∀ ob : Obj, s.heap.objs.size ∉ [(s.heap.push ob).objs.size, l] := fun ob => by
          rw [Heap.size_push]
          simp only [List.mem_cons, List.mem_singleton, List.not_mem_nil, or_false, not_or]
          exact ⟨Nat.ne_of_lt (Nat.lt_succ_self _), Nat.ne_of_gt ll⟩
        have nB : ∀ (ob : Obj) (b : Addr), b < s.heap.objs.size → b ≠ (s.heap.push ob).objs.size := fun ob b lb => by
          rw [Heap.size_push]
          exact Nat.ne_of_lt (Nat.lt_succ_of_lt lb)
        subst hso
        wp_walk
        subst hPI
        refine wpAny_pyIter_tuple hl1 ?_
        refine wpAny_bind (wpAny_runValue ?_)
        have hh3 : A.in1.in1.in1.handled = none := by simp [hh]
        have sz : xs.length = its.size := by rw [← ints_len hi, Array.length_toList]
        have hval : ∀ (i : Nat) (v : Value), its[i]? = some v → ∃ x t, xs[i]? = some x ∧ v = .int x t := fun i v hv => ints_at hi i v (by rw [Array.getElem?_toList]; exact hv)
        refine fill ((Walks.tuple hh3 _ l (nI (so (!w.params.followText "set-order"))) its).toS) s.heap.objs.size (nS (so (!w.params.followText "set-order"))) xs sz (by rw [← sz]; exact hb) hval (its.size - 0) 0 _ (by omega) (Nat.zero_le _)
          ⟨⟨_, Heap.get?_push_size _ rfl, rfl, rfl⟩, (hl1.push _)⟩ ?hS0 ?hR
        case hS0 =>
          exact ⟨0, Nat.le_refl _, L2.SetR.congr (L2.SetR.at (L2.setR_fresh w) fun o e => Heap.get?_push_of_some _ e) (fun _ => by simp)⟩
        case hR =>
          intro s' c' hm hc' hS'
          obtain ⟨g, g', d', tk', os'⟩ := s'
          have eg : g' = s.gens := hm.gens
          have ed : d' = s.drawn := hm.drawn
          have eo : os' = s.os := hm.os
          subst eg ed eo
          show wpAny _ _ _ _ _ _
          refine wpAny_pure ?_
          show wpAny _ _ (ret Value.none) _ _ _
          rw [← sz, List.take_length] at hS'
          rw [← sz] at hc'
          refine wpAny_pure ⟨rfl, g, tk', c', rfl, hc', hS', fun b o lb e => ?_⟩
          have n1 : b ≠ s.heap.objs.size := Nat.ne_of_lt lb
          have n2 := nB (so (!w.params.followText "set-order")) b lb
          exact hm.heap b o (by simp only [List.mem_cons, List.mem_singleton, List.not_mem_nil, or_false, not_or]; exact ⟨n1, n2⟩) (Heap.get?_push_of_some _ (Heap.get?_push_of_some _ e))
      · cases r₂ with
        | error e => exact hr₂
        | ok fl₂ =>
          cases fl₂ with
          | ret r =>
            obtain ⟨rfl, g, tk, c', rfl, hc', hS', hk'⟩ := hr₂
            repeat (any_goals (first | assumption | wp_step))
            exact q _ _ _ hc' hS' hk'
          | _ => exact hr₂.elim
    | _ => exact hr.elim
end
end Si
namespace Si
open PySem PySem.Spec PyProof.Rows L2
section
variable {X : Cx}
theorem intsAre : ∀ {ns : List Int} {us : List Value}, Vals (ns.map V.int) us → IntsAre us ns
  | [], _, .nil => .nil
  | n :: ns, _, .cons r rt => by
    obtain ⟨t, rfl⟩ := r
    exact .cons n t (intsAre rt)
/-- set(xs), xs a list or a tuple of ints -/
def rSet (K : PySem.W.Frag) (w : World) : List V → Hp → VK → Prop := fun xs H Q => ∃ (p : Addr) (ns : List Int), xs = [.ref p] ∧ (SqL K H p (ns.map V.int) ∨ SqT K H p (ns.map V.int)) ∧ ns.length ≤ 4000 ∧
  ∀ S c, c ≤ ns.length → H S = none → Q (.ref S) (upd H S (SetO w S (fun y => decide (y ∈ ns)) c))
theorem call_set (hc : X.calm = true) : CallR X (.type "set") (rSet X.K X.w) := by
  intro pins s σ H xs us Q I r h
  obtain ⟨p, ns, rfl, hq, hl, k⟩ := h
  obtain ⟨u, rfl, ru⟩ := r.one
  cases (show u = Value.ref p from ru)
  rcases hq with hq | hq
  · obtain ⟨its, r, pl, hz⟩ := I.list hq
    refine set_ints (I.ok.hd hc) pl.isList (by simpa using intsAre r) (by unfold scanBound; omega) fun g tk c hcn hS hk => ?_
    exact ⟨.ref _, _, I.laid (t' := tk) (fun b u e => hk b u (Heap.lt_size e) e) (Nat.le_refl _) (setO_new hS), rfl, k _ c hcn (I.hok.fresh (Nat.le_refl _))⟩
  · obtain ⟨its, r, pl, hz⟩ := I.tuple hq
    refine set_intsT (I.ok.hd hc) pl (by simpa using intsAre r) (by unfold scanBound; omega) fun g tk c hcn hS hk => ?_
    exact ⟨.ref _, _, I.laid (t' := tk) (fun b u e => hk b u (Heap.lt_size e) e) (Nat.le_refl _) (setO_new hS), rfl, k _ c hcn (I.hok.fresh (Nat.le_refl _))⟩
end
end Si

/-! iter(tuple) as a value; list(x), x with an __iter__ that gives such a one, and an own __len__. -/
namespace Li
open PySem PySem.Spec PyProof.Rows L2
/-- an iterator of the tuple t, not begun -/
def TiO (t it : Addr) : HO := .ext fun h => h.IsTupleIter it t 0
theorem ti_at {h h' : Heap} {t it : Addr} {i : Nat} (x : h.IsTupleIter it t i) (k : ∀ o, h.get? it = some o → h'.get? it = some o) : h'.IsTupleIter it t i := by
  obtain ⟨o, e, r⟩ := x
  exact ⟨o, k o e, r⟩
theorem ti_ok {P : Program} {w : World} {H : Hp} {h : Heap} {t it : Addr} (x : h.IsTupleIter it t 0) : ObjOk P w H h it (TiO t it) :=
  ⟨x, by obtain ⟨o, e, _⟩ := x; exact ⟨o, e⟩, fun _ _ p k => ti_at p k⟩
/-- iter(t): the iterator is younger than all that is tracked -/
def rIterT (K : PySem.W.Frag) : List V → Hp → VK → Prop := fun xs H Q => ∃ (t : Addr) (zs : List V), xs = [.ref t] ∧ SqT K H t zs ∧ ∀ it, H it = none → (∀ b o, H b = some o → b < it) → Q (.ref it) (upd H it (TiO t it))
section
variable {X : Cx}
theorem call_iterT : CallR X (.builtin "iter") (rIterT X.K) := by
  intro pins s σ H xs us Q I r h
  obtain ⟨t, zs, rfl, hq, q⟩ := h
  obtain ⟨u, rfl, ru⟩ := r.one
  cases (show u = Value.ref t from ru)
  obtain ⟨its, rv, pl, hz⟩ := I.tuple hq
  refine Calls.call_function_entry (by decide +kernel) (by decide +kernel) PySem.W.kdk_entry_iter (PySem.W.kdk_args_iter _) ?_
  unfold Builtin.«iter»
  refine wpAny_bind (m := someArgs "iter" 1 2 _) (wpAny_of_eq (a := [Value.ref t]) (by first | rfl | kernel_rfl!) ?_)
  show wpAny _ _ (pyIter (.ref t) >>= _) _ _ _
  refine wpAny_bind (wpAny_pyIter_tuple (items := its.toArray) pl (wpAny_pure ⟨_, rfl, ?_⟩))
  refine ⟨.ref s.heap.objs.size, _, I.laid (t' := s.toks) (fun b u e => Heap.get?_push_of_some _ e) (Nat.le_refl _) (ti_ok ⟨_, Heap.get?_push_size _ rfl, rfl, rfl⟩), rfl, q _ (I.hok.fresh (Nat.le_refl _)) fun b o e => ?_⟩
  exact (I.hok b o e).lt
end
section
variable {X : Cx} {pins : List (Addr × Obj)} {σ : L2.St} {q it t : Addr} {zs : List V} {A1 : Around} {Rs : Result → Shared → Prop}
/-- the list at q takes what the iterator gives -/
theorem fill (hh : A1.in1.handled = none) (few : zs.length ≤ 1000) : ∀ (k i : Nat) (H : Hp) (s : Shared), zs.length - i = k → i ≤ zs.length → Inv X pins σ H s → H q = some (.lst (zs.take i)) → FpOk X pins H it → s.heap.IsTupleIter it t i → SqT X.K H t zs →
    (∀ s', Inv X pins σ (upd H q (.lst zs)) s' → Rs (.ok (.ret .none)) s') → codeAny (model X.prog X.w) A1 (.builtin "list.extend.loop" ⟨[.ref q, .ref it, .none], []⟩) Rs s := by
  intro k
  have sz := sizeLine_eq
  induction k with
  | zero =>
    intro i H s hk hi I hq fp st ht hd
    have e : i = zs.length := by omega
    subst e
    obtain ⟨its, rv, pl, hz⟩ := I.tuple ht
    have li := rv.length
    obtain ⟨f0, f1, f2, f3, f4, f5⟩ := fp
    refine codeAny_builtin PySem.F.entry_extend_loop ?_
    rw [Around.under_plainId PySem.F.plain_extend_loop _]
    show wpAny _ A1.in1 (pyNext (.ref it) >>= _) _ _ s
    refine wpAny_bind (wpAny_pyNext_tuple_end hh st (items := its.toArray) pl (by rw [List.getElem?_toArray, List.getElem?_eq_none (by omega)]) fun h' ex => ?_)
    have I1 := I.turned (t' := s.toks) (h' := h') (fun b o nb e => ex b o nb e) f0 f1 f3 f4 f5
    rw [List.take_length] at hq
    have e : upd H q (.lst zs) = H := by
      funext b
      by_cases c : b = q
      · rw [c, upd_same, hq]
      · rw [upd_ne c]
    exact wpAny_pure (hd _ (by rw [e]; exact I1))
  | succ k ih =>
    intro i H s hk hi I hq fp st ht hd
    have lt : i < zs.length := by omega
    obtain ⟨its, rv, pl, hz⟩ := I.tuple ht
    obtain ⟨u, hu, ru⟩ := rv.get (List.getElem?_eq_getElem lt)
    obtain ⟨f0, f1, f2, f3, f4, f5⟩ := id fp
    refine codeAny_builtin PySem.F.entry_extend_loop ?_
    rw [Around.under_plainId PySem.F.plain_extend_loop _]
    show wpAny _ A1.in1 (pyNext (.ref it) >>= _) _ _ s
    refine wpAny_bind (wpAny_pyNext_tuple_item st (items := its.toArray) pl (x := u) (by simpa using hu) fun h' st' sb => ?_)
    have I1 := I.turned (t' := s.toks) (h' := h') (fun b o nb e => (sb.2 b nb).trans e) f0 f1 f3 f4 f5
    obtain ⟨z, ls, kk, r2, hl, e⟩ := I1.lstM hq
    have ll := r2.length
    rw [List.length_take] at ll
    show wpAny _ A1.in1 (updateSeq q (·.push u) >>= _) _ _ _
    have nq : it ≠ q := fun c => by rw [← c, f0] at hq; cases hq
    refine wpAny_bind (wpAny_updateSeq e rfl (wpAny_pure ⟨plainId_quiet PySem.F.plain_extend_loop _, ?_⟩) (by rw [List.size_toArray]; omega) (by show (ls.toArray.push u).size ≤ sizeLine + 1; rw [Array.size_push, List.size_toArray]; omega))
    have I2 := I1.lset (f := (·.push u)) (its' := ls ++ [u]) (t' := s.toks) hq e (by simp) (r2.append (.cons ru .nil)) (by rw [List.length_append, List.length_singleton, List.length_take]; omega)
    have tk : zs.take i ++ [zs[i]] = zs.take (i + 1) := by rw [List.take_add_one, List.getElem?_eq_getElem lt]; rfl
    rw [tk] at I2
    refine ih (i + 1) _ _ (by omega) lt I2 upd_same ⟨by rw [upd_ne nq]; exact f0, f1, f2, f3, f4, f5⟩ (ti_at st' fun o e => ?_) ?_ fun s' I' => hd s' (by rw [upd_upd] at I'; exact I')
    · exact (Heap.get?_update_other _ _ (Ne.symm nq)).trans e
    · rcases ht with (w1 | ⟨o, w2⟩) | w3
      · refine .inl (.inl ?_)
        rw [upd_ne fun c => by rw [c, hq] at w1; cases w1]
        exact w1
      · refine .inl (.inr ⟨o, ?_⟩)
        rw [upd_ne fun c => by rw [c, hq] at w2; cases w2]
        exact w2
      · exact .inr w3
end
end Li
namespace Li
open PySem PySem.Spec PyProof.Rows L2 ItX
section
variable {X : Cx} {C fi fl : Addr} {spI spL : Sp} {EI EL : XK} {n : Nat}
/-- a def that never raises, called anywhere within -/
theorem sure_at {A : Around} {Q : VK} {E : XK} {g : Addr} {sp : Sp} {us : List Value} {ws : List V} {pins : List (Addr × Obj)} {σ : L2.St} {H : Hp} {s : Shared} (F : FnR X.prog X.w X.K X.mg X.base CX0 n g sp) (hr : Room n A) (e0 : Env0 X.prog X.w X.K X.mg X.base A X.stack s H) (I : Inv X pins σ H s)
    (r : Vals ws us) (h : sp ws H Q E) : codeAny (model X.prog X.w) A (.call (.ref g) ⟨us, []⟩) (fun r s' => match r with | .ok (.ret v) => EP X pins σ Q v s' | .ok _ => False | .error _ => False) s := by
  refine codeAny_mono (F A X.stack s H us ws Q E hr e0 r h) fun r s' z => ?_
  match r, z with
  | .ok (.ret _), z => exact I.after z
  | .ok .next, z => exact z.elim
  | .ok .brk, z => exact z.elim
  | .ok .cont, z => exact z.elim
  | .error _, z => exact z.elim
/-- list(x): its __iter__ gives an iterator of a tuple, its __len__ a number -/
def rListIt (K : PySem.W.Frag) (C : Addr) (spI spL : Sp) (EI EL : XK) : List V → Hp → VK → Prop := fun xs H Q => ∃ a dx fs, xs = [.ref a] ∧ H a = some (.ins C dx fs) ∧ ∀ q, H q = none → spI [.ref a] (upd H q (.lst []))
  (fun v H1 => ∃ it t zs, v = .ref it ∧ H1 it = some (TiO t it) ∧ q < it ∧ SqT K H1 t zs ∧ zs.length ≤ 1000 ∧ H1 q = some (.lst []) ∧ H1 a = some (.ins C dx fs) ∧
    spL [.ref a] H1 (fun z H2 => ∃ i : Int, z = .int i ∧ 0 ≤ i ∧ i < 1000 ∧ H2 = H1 ∧ Q (.ref q) (upd (dropH H1 it) q (.lst zs))) EL) EI
theorem call_listIt (hs : PySem.W.findIn X.K (.ref C) "__iter__" = some (some (.ref fi))) (hf : PySem.W.isFn X.K (.ref fi) = true) (hl : PySem.W.findIn X.K (.ref C) "__len__" = some (some (.ref fl))) (hlf : PySem.W.isFn X.K (.ref fl) = true)
    (FI : FnR X.prog X.w X.K X.mg X.base CX0 n fi spI) (FL : FnR X.prog X.w X.K X.mg X.base CX0 n fl spL) (hc : X.calm = true) (hr : Room (n + 4) X.A) : CallR X (.type "list") (rListIt X.K C spI spL EI EL) := by
  intro pins s σ H xs us Q I rv h
  obtain ⟨a, dx, fs, rfl, ha, hq⟩ := h
  obtain ⟨u, rfl, ru⟩ := rv.one
  cases (show u = Value.ref a from ru)
  have sb : Sub X (n + 1) X.A.in1.in1.in1 := Sub.in1 (Sub.in1 (Sub.in1 ⟨hr, rfl⟩))
  refine callType_codes (Q₁ := fun obj s₁ => obj = .ref s.heap.objs.size ∧ s₁ = { s with heap := s.heap.push { cls := .type "list", data := .seq #[] } })
    PySem.F.called_list (PySem.F.typeCall_list_1 _) PySem.F.entry_list_init (code_list_new _ ⟨rfl, rfl⟩) fun obj s₁ h₁ => ?_
  obtain ⟨rfl, rfl⟩ := h₁
  have hS : (s.heap.push { cls := .type "list", data := .seq #[] }).get? s.heap.objs.size = some { cls := .type "list", data := .seq #[] } := Heap.get?_push_size _ rfl
  refine ⟨⟨_, hS, rfl⟩, PySem.F.args_list_init_2 _ _, ?_⟩
  have fr : H s.heap.objs.size = none := I.hok.fresh (Nat.le_refl _)
  have hsp := hq _ fr
  have young : X.s_0.heap.objs.size ≤ s.heap.objs.size := I.sz
  have I1 : Inv X pins σ (upd H s.heap.objs.size (.lst [])) { s with heap := s.heap.push { cls := .type "list", data := .seq #[] } } := I.lnew (its := []) (t' := s.toks) .nil (Nat.zero_le _)
  show wpAny _ _ (Builtin.List.listItems (.ref s.heap.objs.size) >>= fun old => Builtin.List.listUpdate (.ref s.heap.objs.size) (fun _ => #[]) >>= fun _ => letGo old.toList.reverse >>= fun _ => Builtin.List.listExtendWith (.ref s.heap.objs.size) (.ref a) .none) _ _ _
  refine wpAny_bind ?_
  unfold Builtin.List.listItems
  refine wpAny_bind (wpAny_seqItems hS rfl (wpAny_pure ?_))
  show wpAny _ _ (updateSeq s.heap.objs.size (fun _ => #[]) >>= fun _ => letGo (#[] : Array Value).toList.reverse >>= fun _ => Builtin.List.listExtendWith (.ref s.heap.objs.size) (.ref a) .none) _ _ _
  refine wpAny_bind (wpAny_updateSeq hS rfl ?_)
  have I2 := I1.lset (f := fun _ => #[]) (its := []) (its' := []) (ys := []) (t' := s.toks) upd_same hS rfl .nil (Nat.zero_le _)
  rw [upd_upd] at I2
  refine wpAny_bind (wpAny_letGo ?_)
  have ha2 : upd H s.heap.objs.size (.lst []) a = some (.ins C dx fs) := by rw [upd_ne (ne_of_none ha fr)]; exact ha
  have nqa : s.heap.objs.size ≠ a := (ne_of_none ha fr).symm
  have low : s.heap.objs.size < ({ s with heap := (s.heap.push { cls := .type "list", data := .seq #[] }).update s.heap.objs.size (Obj.mapSeq fun _ => #[]) } : Shared).heap.objs.size := (I2.hok _ _ upd_same).lt
  generalize hq0 : s.heap.objs.size = q at *
  generalize ({ s with heap := (s.heap.push { cls := .type "list", data := .seq #[] }).update q (Obj.mapSeq fun _ => #[]) } : Shared) = s1 at *
  generalize hH1 : upd H q (.lst []) = H1 at *
  have hq1 : H1 q = some (.lst []) := by rw [← hH1]; exact upd_same
  obtain ⟨ox, od, J⟩ := Ow.ins_at I2 ha2
  obtain ⟨m0, hF⟩ := I2.fr
  unfold Builtin.List.listExtendWith
  refine wpAny_bind (J.type.here ?_)
  have b1 : Builtin.List.listSameRef (.ref q) (.ref a) = false := by simp [Builtin.List.listSameRef, nqa]
  have b2 : (Value.ref C == Value.type "list") = false ∧ (Value.ref C == Value.type "tuple") = false := ⟨rfl, rfl⟩
  simp only [b1, b2.1, b2.2, Bool.or_false, Bool.false_eq_true, if_false]
  refine wpAny_bind (PySem.W.owit_iter hF I2.ok.mod.kin J hs hf ?_)
  have env : ∀ {s2 : Shared} {H2 : Hp}, Inv X pins σ H2 s2 → Env0 X.prog X.w X.K X.mg X.base X.A.in1.in1 X.stack s2 H2 := fun I => by
    have e := I.env0
    exact ⟨e.frames, e.mod, e.bs, e.bsz, e.funs, e.frf, e.hok, e.bare⟩
  have room0 : Room (n + 1) X.A.in1.in1 := (hr.in1.in1).mono (by omega)
  have room1 : Room n X.A.in1.in1 := room0.mono (by omega)
  refine wpAny_mono (wpAny_call (sure_at (us := [.ref a]) (ws := [.ref a]) FI room1 (env I2) I2 (.cons rfl .nil) hsp)) (fun v s3 hv => ?_) fun _ _ x => x.elim
  obtain ⟨v', H3, I3, rv3, it, t, zs, rfl, hit, qlt, ht, few, hq3, ha3, hsp2⟩ := hv
  cases (show v = Value.ref it from rv3)
  have st3 : s3.heap.IsTupleIter it t 0 := (I3.hok it _ hit).1
  unfold PySem.W.OwitIt
  refine wpAny_specialOf (name := Str.ofString "__next__") st3.typeIs PySem.F.slot_tuple_iterator_next.lookup ?_
  refine wpAny_bind (wpAny_holding ?_)
  unfold Builtin.List.listLengthHint
  obtain ⟨ox3, od3, J3⟩ := Ow.ins_at I3 ha3
  obtain ⟨m3, hF3⟩ := I3.fr
  refine wpAny_bind (wpAny_bind (J3.type.here ((PySem.W.looks_findIn I3.kIn hl).here ?_)))
  refine PySem.W.KFB.if_not rfl ?_
  refine wp_if_pos rfl (wpAny_bind (wpAny_rule (wpAny_bind (wpAny_attempt ?_))))
  refine PySem.W.len_K hF3 I3.ok.mod.kin J3 hl hlf (wpAny_mono (wpAny_call (sure_at (us := [.ref a]) (ws := [.ref a]) FL (room0.in1) (env I3).in1 I3 (.cons rfl .nil) hsp2)) (fun w s4 z => ?_) fun _ _ x => x.elim)
  obtain ⟨z', H4, I4, rz, i, rfl, h0, h1, rfl, qz⟩ := z
  obtain ⟨tk, e⟩ := (show ∃ tk, w = Value.int i tk from rz)
  cases e
  refine ⟨⟨h0, by omega⟩, ?_⟩
  dsimp only
  refine wpAny_bind (wpAny_of_eq (a := some i) rfl ?_)
  have sl := sizeLine_eq
  refine wp_if_neg (by unfold Builtin.List.listTooLong; rw [decide_eq_true_eq]; omega) (wpAny_pure ?_)
  have I5 := inv_drop (I4.tok (s4.toks + 1)) hit
  have fp : FpOk X pins (dropH H4 it) it := inv_fp I4 hit (Nat.le_trans young (Nat.le_of_lt qlt))
  have nqi : q ≠ it := Nat.ne_of_lt qlt
  have hq5 : dropH H4 it q = some (.lst []) := (dropH_ne nqi).trans hq3
  have ht5 : SqT X.K (dropH H4 it) t zs := by
    rcases ht with (w1 | ⟨o, w2⟩) | w3
    · refine .inl (.inl ((dropH_ne fun c => ?_).trans w1))
      rw [c, hit] at w1
      cases w1
    · refine .inl (.inr ⟨o, (dropH_ne fun c => ?_).trans w2⟩)
      rw [c, hit] at w2
      cases w2
    · exact .inr w3
  have st5 : s4.heap.IsTupleIter it t 0 := (I4.hok it _ hit).1
  have hh : X.A.in1.in1.handled = none := by simp [I.ok.hd hc]
  have go : ∀ s6 : Shared, Inv X pins σ (dropH H4 it) s6 → s6.heap.IsTupleIter it t 0 → codeAny (model X.prog X.w) X.A.in1 (.builtin "list.extend.loop" ⟨[.ref q, .ref it, .none], []⟩) (wants (fun r s₂ => r = .none ∧ EP X pins σ Q (.ref q) s₂) X.xe) s6 := fun s6 I6 st6 =>
    fill (zs := zs) hh few (zs.length - 0) 0 _ s6 rfl (Nat.zero_le _) I6 hq5 fp st6 ht5 fun s7 I7 => ⟨rfl, ⟨.ref q, _, I7, rfl, qz⟩⟩
  refine wpAny_ite_split (fun _ => ?_) fun _ => wpAny_pure ⟨plainId_quiet PySem.F.plain_extend_loop _, go _ I5 st5⟩
  refine wpAny_bind (wpAny_rule (wpAny_bind ?_))
  obtain ⟨z5, its5, k5, r5, l5, e5⟩ := I5.lstM hq5
  cases r5
  show wpAny _ _ (updateSeq q (·.push Value.none) >>= fun _ => updateSeq q (·.pop)) _ _ _
  refine wpAny_bind (wpAny_updateSeq e5 rfl ?_)
  have I6 := I5.lset (f := (·.push Value.none)) (its' := [Value.none]) (ys := [.non]) (t' := s4.toks + 1) hq5 e5 (by simp) (.cons rfl .nil) (by rw [List.length_singleton, sl]; decide)
  obtain ⟨z6, its6, k6, r6, l6, e6⟩ := I6.lstM upd_same
  obtain ⟨u6, rfl, ru6⟩ := r6.one
  refine wpAny_updateSeq e6 rfl ?_ (by show 1 ≤ sizeLine; rw [sl]; decide) (by show 0 ≤ sizeLine + 1; exact Nat.zero_le _)
  have I7 := I6.lset (f := (·.pop)) (its := [u6]) (its' := []) (ys := []) (t' := s4.toks + 1) upd_same e6 (by rfl) .nil (Nat.zero_le _)
  rw [upd_upd, show upd (dropH H4 it) q (.lst []) = dropH H4 it from funext fun b => by
    by_cases c : b = q
    · rw [c, upd_same, hq5]
    · rw [upd_ne c]] at I7
  refine wpAny_pure ⟨plainId_quiet PySem.F.plain_extend_loop _, go _ I7 (ti_at st5 fun o e => ?_)⟩
  exact (Heap.get?_update_other _ _ nqi).trans ((Heap.get?_update_other _ _ nqi).trans e)
end
end Li
/-! for .. in x, x an instance whose __iter__ gives iter(tuple). -/
namespace Li
open PySem PySem.Spec PyProof.Rows L2 ItX
section
variable {X : Cx} {C fi : Addr} {spI : Nat → Sp} {EI : XK} {n : Nat} {tg : Expr}
/-- a def whose promise knows how many objects there are when it is called -/
def FnA (P : Program) (w : World) (K : PySem.W.Frag) (mg : Str → Option Value) (base : Heap) (n : Nat) (g : Addr) (sp : Nat → Sp) : Prop :=
  ∀ (A : Around) (outer : List Env) (s : Shared) (H : Hp) (us : List Value) (vs : List V) (Q : VK) (E : XK), Room n A → Env0 P w K mg base A outer s H → Vals vs us → sp s.heap.objs.size vs H Q E →
    codeAny (model P w) A (.call (.ref g) ⟨us, []⟩) (CR CX0 outer P w H s Q E) s
theorem fnA_of {P : Program} {w : World} {K : PySem.W.Frag} {mg : Str → Option Value} {base : Heap} {x qual : Str} {st : Stmt} {g : Addr} {fd : FuncData} {N ps : List Str} {k : Nat} {sp : Nat → Sp} (F : Fun K x qual st g fd) (S : FnScope N ps (defScope st)) (B : Binds K fd ps [])
    (len : ∀ n vs H Q E, sp n vs H Q E → vs.length = ps.length)
    (body : ∀ (cdv : Value) (A : Around) (outer : List Env) (s : Shared) (H : Hp) (vs : List V) (Q : VK) (E : XK), Room k (A.deeper (envOfC qual (defScope st) s.heap.objs.size g cdv)) → sp s.heap.objs.size vs H Q E →
      ∃ t, PSs (cxOf CX0 P w K mg base N qual (defScope st) g cdv A outer s H E) (defBody st) t ∧ t { nx := fun _ H' => Q .non H', rt := Q } (start N vs) H) : FnA P w K mg base (k + 1) g sp := by
  obtain ⟨oc, od, kV, doc, pm, an, cdv, ct, osl, rfl, lk, hcd⟩ := F.ex
  intro A outer s H us vs Q E hr e0 r hsp
  have hl := len _ _ _ _ _ hsp
  have KX : K.In s.heap := e0.mod.kin.keeps fun b o e => (e0.bs b o e).1
  have bd := B s us KX (by rw [List.append_nil, ← r.length]; exact hl)
  rw [List.append_nil] at bd
  refine codeAny_call_function hr.depth (KX _ _ lk) rfl S.co S.gen rfl (PySem.W.codeRec_of KX hcd) (bd _ _ _ _ ?_)
  refine wpAny_newFunctionEnv_cells S.kind (fun y hy => ?_) fun env he s1 fresh => ?_
  · rcases S.par y.1 (List.of_mem_zip (show (y.1, y.2) ∈ ps.zip us from hy)).1 with q | q
    · exact .inl q
    · exact .inr ⟨q, PySem.W.cellsFrom_some _ _ _ (.inl q)⟩
  subst he
  refine ⟨(e0.mod.nolimit.keeps fun b o e => (e0.bs b o e).1).keeps fresh.toInCall.keep, codeAny_func ?_⟩
  obtain ⟨t, ht, hq⟩ := body _ A outer s H vs Q E (hr.deeper _) hsp
  refine wpAny_mono (ht.run [] s1 (start N vs) H _ (inv_start S hr.hd e0 hl r fresh) hq) (fun fl s' hs => ?_) fun e s' hs => hs
  match fl, hs with
  | .ret _, ⟨v, _, H', J, rv, q⟩ => exact ⟨v, H', J.os, J.bare, J.base, J.hok, rv, q⟩
  | .next, ⟨_, H', J, q⟩ => exact ⟨V.non, H', J.os, J.bare, J.base, J.hok, rfl, q⟩
  | .brk, ⟨_, _, _, q⟩ => exact q.elim
  | .cont, ⟨_, _, _, q⟩ => exact q.elim
/-- iter(t), n: how many objects there were -/
def rIterN (K : PySem.W.Frag) (n : Nat) : List V → Hp → VK → Prop := fun xs H Q => ∃ (t : Addr) (zs : List V), xs = [.ref t] ∧ SqT K H t zs ∧ ∀ it, H it = none → n ≤ it → Q (.ref it) (upd H it (TiO t it))
theorem call_iterN {X : Cx} : CallR X (.builtin "iter") (rIterN X.K X.s_0.heap.objs.size) := by
  intro pins s σ H xs us Q I r h
  obtain ⟨t, zs, rfl, hq, q⟩ := h
  obtain ⟨u, rfl, ru⟩ := r.one
  cases (show u = Value.ref t from ru)
  obtain ⟨its, rv, pl, hz⟩ := I.tuple hq
  refine Calls.call_function_entry (by decide +kernel) (by decide +kernel) PySem.W.kdk_entry_iter (PySem.W.kdk_args_iter _) ?_
  unfold Builtin.«iter»
  refine wpAny_bind (m := someArgs "iter" 1 2 _) (wpAny_of_eq (a := [Value.ref t]) (by first | rfl | kernel_rfl!) ?_)
  show wpAny _ _ (pyIter (.ref t) >>= _) _ _ _
  refine wpAny_bind (wpAny_pyIter_tuple (items := its.toArray) pl (wpAny_pure ⟨_, rfl, ?_⟩))
  exact ⟨.ref s.heap.objs.size, _, I.laid (t' := s.toks) (fun b u e => Heap.get?_push_of_some _ e) (Nat.le_refl _) (ti_ok ⟨_, Heap.get?_push_size _ rfl, rfl, rfl⟩), rfl, q _ (I.hok.fresh (Nat.le_refl _)) I.sz⟩
/-- such a def, called -/
theorem sure_A {X : Cx} {n : Nat} {A : Around} {Q : VK} {E : XK} {g : Addr} {sp : Nat → Sp} {us : List Value} {ws : List V} {pins : List (Addr × Obj)} {σ : L2.St} {H : Hp} {s : Shared} (F : FnA X.prog X.w X.K X.mg X.base n g sp) (hr : Room n A) (e0 : Env0 X.prog X.w X.K X.mg X.base A X.stack s H) (I : Inv X pins σ H s)
    (r : Vals ws us) (h : sp s.heap.objs.size ws H Q E) : codeAny (model X.prog X.w) A (.call (.ref g) ⟨us, []⟩) (fun r s' => match r with | .ok (.ret v) => EP X pins σ Q v s' | .ok _ => False | .error _ => False) s := by
  refine codeAny_mono (F A X.stack s H us ws Q E hr e0 r h) fun r s' z => ?_
  match r, z with
  | .ok (.ret _), z => exact I.after z
  | .ok .next, z => exact z.elim
  | .ok .brk, z => exact z.elim
  | .ok .cont, z => exact z.elim
  | .error _, z => exact z.elim
def iOwnT (K : PySem.W.Frag) (C : Addr) (spI : Nat → Sp) (EI : XK) (tl : TE) : TI := fun σ H R => tl σ H fun x H1 => ∃ a dx fs, x = .ref a ∧ H1 a = some (.ins C dx fs) ∧
  ∀ m, spI m [.ref a] H1 (fun v H2 => ∃ it t zs, v = .ref it ∧ m ≤ it ∧ H2 it = some (TiO t it) ∧ SqT K H2 t zs ∧ R (Itt K t) (dropH H2 it)) EI
theorem pi_ownT (hs : PySem.W.findIn X.K (.ref C) "__iter__" = some (some (.ref fi))) (hf : PySem.W.isFn X.K (.ref fi) = true) (FI : FnA X.prog X.w X.K X.mg X.base n fi spI) (hr : Room n X.A) {l : Expr} {tl : TE} (hl : PE X l tl) : PI X tg l (iOwnT X.K C spI EI tl) := by
  refine ⟨fun pins s σ H R I h => ?_⟩
  refine thn (hl.run pins s σ H _ I h) fun v s1 ⟨x, H1, I1, r1, q1⟩ => ?_
  obtain ⟨a, dx, fs, e, ha, hsp⟩ := q1
  subst e
  cases r1
  obtain ⟨ox, od, J⟩ := Ow.ins_at I1 ha
  obtain ⟨m0, hF⟩ := I1.fr
  refine PySem.W.owit_iter hF I1.ok.mod.kin J hs hf ?_
  refine wpAny_mono (wpAny_call (sure_A (us := [.ref a]) (ws := [.ref a]) FI hr I1.env0 I1 (.cons rfl .nil) (hsp _))) (fun v s3 hv => ?_) fun _ _ x => x.elim
  obtain ⟨v', H3, I3, rv3, it, t, zs, rfl, yg, hit, ht, q⟩ := hv
  cases (show v = Value.ref it from rv3)
  have st3 : s3.heap.IsTupleIter it t 0 := (I3.hok it _ hit).1
  unfold PySem.W.OwitIt
  refine wpAny_specialOf (name := Str.ofString "__next__") st3.typeIs PySem.F.slot_tuple_iterator_next.lookup ?_
  refine ⟨it, [it], _, _, dropH H3 it, rfl, inv_drop I3 hit, turn_tuple t it, st3, fun b hb => ?_, q⟩
  have e : b = it := by simpa using hb
  rw [e]
  exact inv_fp I3 hit (Nat.le_trans I1.sz yg)
variable {CX : CXT} {k : Nat} {f : Addr} {fd : FuncData} {ps : List Str} {sp : Sp} {e : Expr} {es : List Expr} {t : TA} {x : Str} {p pos : Pos} {ds : List Value} {dvs : List V}
/-- pe_callS of a def with defaults -/
theorem pe_callSD {E : L2.St → XK} (F : FnOk X.prog X.w X.K X.mg X.base CX k f fd ps sp) (hr : Room k X.A) (hg : Gl X x) (hm : X.mg x = some (.ref f)) (hk : PySem.W.keepIn X.K (.ref f) = true) (hb : Binds X.K fd ps ds) (hd : Vals dvs ds) (hx : ∀ σ, PassesAt CX X σ (E σ))
    (ha : PA X (e :: es) t) (hdb : (x == ("__debug__" : Str)) = false := by decide) (he : starEach (e :: es) X.env = (false, eval e X.env) :: starEach es X.env := by rfl) (hpl : (backTo pos (starEach es X.env)).any (·.1) = false := by rfl) :
    PE X (.Call (.Name x p) (e :: es) [] pos) (tCallS (fun vs H Q E => sp (vs ++ dvs) H Q E) E t) := by
  refine ⟨fun pins s σ H Q I h => ?_⟩
  refine wpAny_Call_Name_kw (ld_glob I hg hm ?_ hdb)
  refine PySem.W.callWith_K (h₀ := X.base) I.ok.mod.kin hk (thn (ha.run pos pins s σ H _ I h) fun us s1 ⟨vs, H1, I1, r, q⟩ => ⟨I1.kIn, ?_⟩) he hpl
  refine wpAny_call (codeAny_mono (F.raw hb hd X.A X.stack s1 H1 us vs Q (E σ) hr I1.env0 r q) fun r s' hq => ?_)
  cases r with
  | error e => exact hx σ pins H1 s1 e s' I1 hq
  | ok fl =>
    cases fl with
    | ret u => exact I1.after hq
    | next => exact False.elim hq
    | brk => exact False.elim hq
    | cont => exact False.elim hq
end
end Li

/-! sorted(set of ints), any number of members. -/
namespace Sa
open PySem PySem.Spec PyProof.Rows L2
section
variable {P : Program} {w : World} {A : Around} {E : Value → Shared → Prop} {s : Shared} {a : Addr}
theorem sorted_setAny {S : Int → Bool} {n : Nat} {Q : Value → Shared → Prop} (R : SetR w s.heap a S n) (hh : A.handled = none) (hn4 : n ≤ 4000)
    (hQ : ∀ s' p (out : Array Value) (c : Nat) (ns : List Int), (∀ b o, s.heap.get? b = some o → s'.heap.get? b = some o) → s'.gens = s.gens → s'.os = s.os → s.heap.objs.size ≤ p →
      s'.heap.get? p = some (seqObj "list" out c) → IntsAre out.toList ns → ns.Pairwise (· < ·) → (∀ k, k ∈ ns ↔ S k = true) → ns.length = n → Q (.ref p) s') :
    wpAny (model P w) A (call (.builtin "sorted") [.ref a]) Q E s := by
  obtain ⟨o, es, ep, t, ho, hex, hd, g, nd, hm, hb, hf, hn, hr, hl⟩ := R
  refine Calls.call_function_entry kind_sorted plain_sorted entry_sorted (args_sorted1 _) ?_
  unfold Builtin.«sorted»
  refine wpAny_bind (m := checkCount "sorted" 1 1 _) (wpAny_pure ?_)
  refine wpAny_bind (collect_set (A := A.in1) hh ⟨o, ho, hex.1, hd⟩ hf hb hr hl fun s1 vs k1 hz g1 o1 pm => ?_)
  have hvl : vs.length = n := by rw [pm.length_eq, List.length_map, Array.length_toList]; exact hn
  have hI : IntsAre vs (vs.map Builtin.Re.reRawOf) := ints_of vs fun v hv => by
    obtain ⟨e, he, q⟩ := List.mem_map.mp (pm.mem_iff.mp hv)
    obtain ⟨k, tk, h1, _⟩ := g e he
    exact ⟨k, tk, by rw [← q]; exact h1⟩
  have pk : (vs.map Builtin.Re.reRawOf).Perm (es.toList.map keyOf) := by
    have q := pm.map Builtin.Re.reRawOf
    rw [List.map_map] at q
    exact q
  refine wpAny_bind (wpAny_newList ?_ (by rw [hvl, sizeLine_eq]; omega))
  have hoL : (s1.heap.push (seqObj "list" vs.toArray 0)).get? s1.heap.objs.size = some (seqObj "list" vs.toArray 0) := Heap.get?_push_size _ rfl
  refine wpAny_bind (wpAny_holding (wpAny_call_entry slot_list_sort ⟨_, hoL, rfl⟩ entry_list_sort (list_sort_treeAny hoL hI (by rw [hvl, sizeLine_eq]; omega) fun out ns' a1 a2 a3 => ⟨_, rfl, ?_⟩) (args_list_sort _)))
  obtain ⟨c, hc⟩ := sortedHeap_at (vs := vs) (out := out) hoL
  have pn : ns'.Perm (es.toList.map keyOf) := a2.trans pk
  refine wpAny_pure ⟨_, rfl, hQ _ s1.heap.objs.size out c ns' (fun b u e => ?_) g1 o1 hz hc a1 (lt_of_le_nodup ns' a3 (pn.nodup_iff.mpr nd)) (fun k => by rw [pn.mem_iff, ← hm k]) ?_⟩
  · have q := k1 b u e
    have hlt := Heap.lt_size q
    show (sortedHeap (s1.heap.push (seqObj "list" vs.toArray 0)) s1.heap.objs.size vs out).get? b = some u
    rw [sortedHeap_old (Nat.ne_of_lt hlt) (by rw [size_push']; exact Nat.lt_succ_of_lt hlt)]
    exact Heap.get?_push_of_some _ q
  · rw [pn.length_eq, List.length_map, Array.length_toList]; exact hn
end
section
variable {X : Cx}
def rSortedSetA (w : World) : List V → Hp → VK → Prop := fun vs H Q => ∃ (a : Addr) (S : Int → Bool) (n : Nat), vs = [V.ref a] ∧ H a = some (SetO w a S n) ∧ n ≤ 4000 ∧
  ∀ (ns : List Int) (p : Addr), ns.Pairwise (· < ·) → (∀ k : Int, k ∈ ns ↔ S k = true) → ns.length = n → H p = none → Q (.ref p) (upd H p (.lst (ns.map V.int)))
theorem cr_sortedSetA (hc : X.calm = true) : CallR X (.builtin "sorted") (rSortedSetA X.w) := by
  intro pins s σ H vs us Q I r h
  obtain ⟨a, S, n, rfl, ha, h64, q⟩ := h
  have R := setO_get I ha
  rw [Vals.ref1 r]
  refine sorted_setAny R (I.ok.hd hc) h64 fun s' p out c ns k g o hp hg hi hs hm hl => ?_
  have hlen : (ns.map V.int).length ≤ sizeLine := by rw [List.length_map, hl, sizeLine_eq]; omega
  have hn : H p = none := I.hok.fresh hp
  have J : Inv X pins σ (upd H p (.lst (ns.map V.int))) { s with heap := s'.heap, gens := s'.gens, drawn := s'.drawn, toks := s'.toks } :=
    I.call (ch := []) (Un.laid k hp hn) (I.hok.laid k hp ⟨hlen, out.toList, c, vals_of_ints hi, hg⟩) (by rw [g]; exact I.bare) (fun _ z => nomatch z)
  have e : s' = { s with heap := s'.heap, gens := s'.gens, drawn := s'.drawn, toks := s'.toks } := by
    cases s'
    cases s
    cases o
    rfl
  rw [e]
  exact ⟨.ref p, _, J, rfl, q ns p hs hm hl hn⟩
end
end Sa

/-! x op y by the own def of x's class, y of a built-in type; a call that may raise in a try whose suite asks only its own name. -/
namespace Po
open PySem PySem.Spec PyProof.Rows L2
theorem passL {X : Cx} {W : WX} (n : Nat) (hn : X.N.length = n) (tk : Takes X W) : Passes (L2.CX X.prog X.w) X (fun cls d H => ∀ σ : L2.St, σ.length = n → W cls d σ H) :=
  fun _ σ _ _ e s' I c => tk e s' (XE.of_call I (fun _ _ _ h => h σ (I.len.trans hn)) c)
/-- what is asked of the type T on the right -/
structure RT (K : PySem.W.Frag) (op : Operator) (C : Addr) (T : String) : Prop where
  ex : ∃ fo ro : Option Value, PySem.W.findIn K (.type T) (PySem.dunder op.info.2) = some fo ∧ PySem.W.findIn K (.type T) (dunderR op.info.2) = some ro
  sub : PySem.W.subIn K (.type T) (.ref C) = some false
/-- and of the class on the left -/
structure LT (K : PySem.W.Frag) (op : Operator) (C : Addr) : Prop where
  rc : ∃ rc : Option Value, PySem.W.findIn K (.ref C) (dunderR op.info.2) = some rc ∧ (rc = none ∨ ∃ g : Addr, rc = some (.ref g))
  sf : PySem.W.selfFirst K C = true
section
open PySem.W
variable {prog : Program} {w : World} {A : Around} {E : Value → Shared → Prop} {s : Shared} {K : Frag} {x C L f : Addr} {h₀ : Heap} {m : Str → Option Value} {ox : Obj} {od : Option Obj} {T : String}
theorem bin_at {op : Operator} {b : Value} {Q : Value → Shared → Prop} (F : Fr h₀ L s.heap m) (kin : K.In h₀) (I : InstAt s.heap x ox C od) (hb : Looks (model prog w) s.heap (typeOf b) (.type T)) (lt : LT K op C)
    (own : findIn K (.ref C) (PySem.dunder op.info.2) = some (some (.ref f))) (fn : isFn K (.ref f) = true) (rt : RT K op C T)
    (go : wpAny (model prog w) A (call (.ref f) [.ref x, b]) (PySem.W.CmpBack Q) E s) : wpAny (model prog w) A (binaryOp op (.ref x) b) Q E s := by
  have kn := kin.keeps F.keep
  obtain ⟨⟨fo, ro, t1, t2⟩, apart⟩ := rt
  obtain ⟨⟨rc, back, bk⟩, first⟩ := lt
  obtain ⟨cd, rest, ecd, emro⟩ := ksp_first first
  rcases hop : op.info with ⟨sg, nm⟩
  rw [hop] at own back t1 t2
  dsimp only at own back t1 t2
  have tried := ksp_try kn I own fn go
  obtain ⟨hp, gn, dr, tks, oss⟩ := s
  have k1 : Looks (model prog w) hp (typeOf (Value.ref x)) (Value.ref C) := I.type
  have k2 : Looks (model prog w) hp (typeOf b) (Value.type T) := hb
  have k3 : Looks (model prog w) hp (fillsNumberSlot (Value.ref C) nm) true := fills_K kn ecd emro own
  have k4 := ksp_fillsT (M := model prog w) kn t1 t2
  have k5 : Looks (model prog w) hp (isSubtype (Value.type T) (Value.ref C)) false := looks_subIn kn apart
  have k6 : Looks (model prog w) hp (numberSlotInPython (Value.ref C) nm) true := ksp_inPy kn own back bk
  have k7 : Looks (model prog w) hp (numberSlotInPython (Value.type T) nm) false := Looks.of_pure rfl
  have k8 : Looks (model prog w) hp (typeLookup (Value.type T) (dunderR nm)) ro := looks_findIn kn t2
  revert k4
  generalize ((fo.isSome && !isSeqSlot fo) || (ro.isSome && !isSeqSlot ro)) = rgt
  intro k4
  have apart2 : (Value.ref C == Value.type T) = false := by
    cases q : (Value.ref C == Value.type T) with
    | false => rfl
    | true => cases beq_iff_eq.mp q
  simp only [binaryOp, hop]
  apply wpAny_holding
  apply wpAny_bind
  unfold binaryOp1
  refine wpAny_bind (k1.at ?_)
  refine wpAny_bind (k2.at ?_)
  refine wpAny_bind (k3.at ?_)
  simp only [apart2, Bool.false_eq_true, if_false]
  cases rgt <;>
    (ksp_lk
     refine wpAny_mono tried (fun r s' z => ?_) fun _ _ e => e
     obtain ⟨v, rfl, hq⟩ := z
     ksp_lk
     exact hq)
end
section
variable {X : Cx} {CX : CXT} {C g : Addr} {n : Nat} {sp : Sp} {E : XK}
/-- x op y by the own def of x's class at C; y of a built-in type -/
def rBinT (K : PySem.W.Frag) (op : Operator) (C : Addr) (sp : Sp) (E : XK) : R2 := fun x y H Q => ∃ a dx fs T, x = .ref a ∧ H a = some (.ins C dx fs) ∧ TyX K H y (.type T) ∧ RT K op C T ∧ sp [x, y] H Q E
theorem op_binI {op : Operator} (lt : LT X.K op C) (hs : PySem.W.findIn X.K (.ref C) (PySem.dunder op.info.2) = some (some (.ref g))) (hf : PySem.W.isFn X.K (.ref g) = true) (F : FnR X.prog X.w X.K X.mg X.base CX n g sp)
    (hr : Room n X.A) (hx : Passes CX X E) : OpR X (binaryOp op) (rBinT X.K op C sp E) := by
  intro pins s σ H x y v u Q I rx ry h
  obtain ⟨a, dx, fs, T, rfl, ha, ty, rt, q⟩ := h
  cases (show v = Value.ref a from rx)
  obtain ⟨ox, od, J⟩ := Ow.ins_at I ha
  obtain ⟨P, k, hp, _⟩ := kit_of I ry ty
  obtain ⟨m, hF⟩ := I.fr
  refine bin_at hF I.ok.mod.kin J (k.ty _ _ I.kIn hp) lt hs hf rt ?_
  refine wpAny_mono (wpAny_call (run_fnR (us := [.ref a, u]) (vs := [.ref a, y]) F hr hx I (.cons rfl (.cons ry .nil)) q)) (fun w s' z => ?_) fun _ _ x => x
  obtain ⟨z', H', I', rz, qz⟩ := z
  exact SlX.cmpback rz ⟨z', H', I', rz, qz⟩
end
end Po

/-! Texts of two signs: seekers (s) and openers (o); zones, walks from an end. -/
namespace Rm
open PySem L2 TL
def sg (b : Bool) : Nat := if b then 115 else 111
def rgS (l : List Bool) : Str := ⟨(l.map sg).toArray⟩
theorem rgS_cps (l : List Bool) : (rgS l).cps.toList = l.map sg := rfl
theorem rgS_len (l : List Bool) : (rgS l).length = l.length := by
  show (l.map sg).toArray.size = _
  simp
theorem rgS_app (a b : List Bool) : rgS a ++ rgS b = rgS (a ++ b) := by
  refine PyProof.Rows.ext_toList ?_
  show ((rgS a).cps ++ (rgS b).cps).toList = _
  rw [Array.toList_append, rgS_cps, rgS_cps, rgS_cps, List.map_append]
theorem sg_inj {a b : Bool} (h : sg a = sg b) : a = b := by cases a <;> cases b <;> first | rfl | cases h
theorem map_inj : ∀ {a b : List Bool}, a.map sg = b.map sg → a = b
  | [], [], _ => rfl
  | [], _ :: _, h => by cases h
  | _ :: _, [], h => by cases h
  | x :: a, y :: b, h => by
    rw [List.map_cons, List.map_cons] at h
    injection h with h1 h2
    rw [sg_inj h1, map_inj h2]
theorem rgS_inj {a b : List Bool} (h : rgS a = rgS b) : a = b := map_inj (by rw [← rgS_cps, h, rgS_cps])
theorem rgS_nil : rgS [] = ("" : Str) := by decide +kernel
theorem rgS_s : rgS [true] = ("s" : Str) := by decide +kernel
theorem rgS_o : rgS [false] = ("o" : Str) := by decide +kernel
theorem rgS_take (l : List Bool) (k : Nat) : cutS (rgS l) none (some (k : Int)) = rgS (l.take k) := by
  refine PyProof.Rows.ext_toList ?_
  show ((l.map sg).drop 0).take (HT.sIx (rgS l).length (rgS l).length (some (k : Int)) - 0) = (l.take k).map sg
  rw [rgS_len, HT.sIx_nat, List.drop_zero, Nat.sub_zero, ← List.map_take]
  congr 1
  rw [List.take_eq_take_iff]
  omega
theorem rgS_drop (l : List Bool) (k : Nat) : cutS (rgS l) (some (k : Int)) none = rgS (l.drop k) := by
  refine PyProof.Rows.ext_toList ?_
  show ((l.map sg).drop (HT.sIx (rgS l).length 0 (some (k : Int)))).take ((rgS l).length - HT.sIx (rgS l).length 0 (some (k : Int))) = (l.drop k).map sg
  rw [rgS_len, HT.sIx_nat, ← List.map_drop, ← List.map_take]
  congr 1
  by_cases c : k ≤ l.length
  · rw [Nat.min_eq_left c, List.take_of_length_le (by rw [List.length_drop]; omega)]
  · rw [Nat.min_eq_right (by omega), List.drop_of_length_le (by omega : l.length ≤ k), List.drop_length, List.take_nil]
theorem cnt_map (b : Bool) : ∀ l : List Bool, PyProof.Rows.cnt (sg b) (l.map sg) = ((l.count b : Nat) : Int)
  | [] => rfl
  | x :: l => by
    rw [List.map_cons, PyProof.Rows.cnt_cons, cnt_map b l, List.count_cons]
    by_cases e : x = b
    · subst e
      simp
      omega
    · have e2 : ¬ sg x = sg b := fun z => e (sg_inj z)
      simp [e, e2]
theorem count_s (l : List Bool) : Txt.count (rgS l) "s" = ((l.count true : Nat) : Int) := (PyProof.Rows.count_cnt _ 115).trans (cnt_map true l)
theorem count_o (l : List Bool) : Txt.count (rgS l) "o" = ((l.count false : Nat) : Int) := (PyProof.Rows.count_cnt _ 111).trans (cnt_map false l)
theorem mem_s (l : List Bool) : (115 ∈ (rgS l).cps.toList) ↔ true ∈ l := by
  rw [rgS_cps, List.mem_map]
  exact ⟨fun ⟨x, m, e⟩ => (sg_inj (b := true) e) ▸ m, fun m => ⟨true, m, rfl⟩⟩
/-- a ring's text -/
structure Ri (l : List Bool) : Prop where
  len : l.length ≤ 10
  has : true ∈ l
/-- what a text must be -/
def IsRing (t : Str) : Prop := t.length ≤ 10 ∧ 115 ∈ t.cps.toList ∧ ∀ c ∈ t.cps.toList, c = 115 ∨ c = 111
theorem ring_iff (l : List Bool) : IsRing (rgS l) ↔ Ri l := by
  constructor
  · rintro ⟨a, b, _⟩
    rw [rgS_len] at a
    exact ⟨a, (mem_s l).mp b⟩
  · rintro ⟨a, b⟩
    refine ⟨by rw [rgS_len]; exact a, (mem_s l).mpr b, fun c m => ?_⟩
    rw [rgS_cps] at m
    obtain ⟨x, _, rfl⟩ := List.mem_map.mp m
    cases x
    · exact .inr rfl
    · exact .inl rfl
/-- the lengths of the groups between openers -/
def grp : List Bool → List Nat
  | [] => [0]
  | false :: l => 0 :: grp l
  | true :: l => match grp l with
    | [] => [1]
    | g :: r => (g + 1) :: r
theorem grp_ne : ∀ l, grp l ≠ []
  | [] => by simp [grp]
  | false :: l => by simp [grp]
  | true :: l => by
    have := grp_ne l
    unfold grp
    cases e : grp l with
    | nil => simp
    | cons g r => simp
theorem grp_t {l : List Bool} {g : Nat} {r : List Nat} (e : grp l = g :: r) : grp (true :: l) = (g + 1) :: r := by
  show (match grp l with | [] => [1] | g :: r => (g + 1) :: r) = _
  rw [e]
theorem grp_len : ∀ l : List Bool, (grp l).length = l.count false + 1
  | [] => rfl
  | false :: l => by show (0 :: grp l).length = _; rw [List.length_cons, grp_len l]; simp
  | true :: l => by
    obtain ⟨g, r, e⟩ := List.exists_cons_of_ne_nil (grp_ne l)
    have ih := grp_len l
    rw [grp_t e]
    rw [e] at ih
    simp only [List.length_cons] at ih ⊢
    rw [ih]
    simp
def sS (n : Nat) : Str := rgS (List.replicate n true)
theorem jl : ∀ (l : List Bool), tl (rgS l) = joinL [111] ((grp l).map fun n => tl (sS n))
  | [] => by decide +kernel
  | false :: l => by
    obtain ⟨g, r, e⟩ := List.exists_cons_of_ne_nil (grp_ne l)
    have ih := jl l
    show (111 :: l.map sg) = joinL [111] ((0 :: grp l).map _)
    rw [e] at ih ⊢
    show _ = [] ++ ([111] ++ joinL [111] ((g :: r).map fun n => tl (sS n)))
    rw [← ih]
    rfl
  | true :: l => by
    obtain ⟨g, r, e⟩ := List.exists_cons_of_ne_nil (grp_ne l)
    have ih := jl l
    rw [grp_t e]
    show (115 :: l.map sg) = _
    have ih : l.map sg = joinL [111] ((grp l).map fun n => tl (sS n)) := ih
    rw [ih, e]
    cases r with
    | nil => rfl
    | cons g2 r => rfl
theorem split_o (l : List Bool) : Txt.split (rgS l) "o" = (grp l).map sS := by
  have e : rgS l = Txt.join "o" ((grp l).map sS) := by
    refine ext_tl ?_
    rw [join_eq, tl_join, jl, List.map_map]
    rfl
  rw [e]
  refine split_join (s := 111) (S := []) (by decide +kernel) (by decide +kernel) (fun z => grp_ne l (List.map_eq_nil_iff.mp z)) fun p hp h => ?_
  obtain ⟨n, _, rfl⟩ := List.mem_map.mp hp
  have h : 111 ∈ (List.replicate n true).map sg := h
  obtain ⟨x, m, e⟩ := List.mem_map.mp h
  rw [(List.mem_replicate.mp m).2] at e
  exact absurd e (by decide)
theorem sS_len (n : Nat) : (sS n).length = n := by
  unfold sS
  rw [rgS_len, List.length_replicate]
/-- the zones: each seeker's number, group by group -/
def zn : Nat → List Nat → List (List Nat)
  | _, [] => []
  | f, g :: r => List.range' f g :: zn (f + g) r
def zones (l : List Bool) : List (List Nat) := zn 0 (grp l)
/-- each seeker's zone -/
def zs : List Bool → List Nat
  | [] => []
  | true :: l => 0 :: zs l
  | false :: l => (zs l).map (· + 1)
/-- each seeker's place -/
def sp : List Bool → List Nat
  | [] => []
  | true :: l => 0 :: (sp l).map (· + 1)
  | false :: l => (sp l).map (· + 1)
def zone (l : List Bool) (k : Nat) : Nat := (l.take k).count false
def c (l : List Bool) (k : Nat) : Nat := (l.take k).count true
theorem zs_sp : ∀ l, zs l = (sp l).map (zone l)
  | [] => rfl
  | true :: l => by
    show 0 :: zs l = (0 :: (sp l).map (· + 1)).map _
    rw [zs_sp l, List.map_cons, List.map_map]
    congr 1
  | false :: l => by
    show (zs l).map _ = ((sp l).map (· + 1)).map _
    rw [zs_sp l, List.map_map, List.map_map]
    refine List.map_congr_left fun k _ => ?_
    show zone l k + 1 = ((false :: l).take (k + 1)).count false
    rw [List.take_succ_cons]
    simp [zone]
theorem sp_len : ∀ l, (sp l).length = l.count true
  | [] => rfl
  | true :: l => by show (0 :: (sp l).map (· + 1)).length = _; rw [List.length_cons, List.length_map, sp_len l]; simp
  | false :: l => by show ((sp l).map (· + 1)).length = _; rw [List.length_map, sp_len l]; simp
theorem zs_len (l : List Bool) : (zs l).length = l.count true := by rw [zs_sp, List.length_map, sp_len]
/-- the places of z in a list, counted from f -/
def pos (f : Nat) : List Nat → Nat → List Nat
  | [], _ => []
  | x :: r, z => if x = z then f :: pos (f + 1) r z else pos (f + 1) r z
theorem pos_snoc (z x : Nat) : ∀ (a : List Nat) (f : Nat), pos f (a ++ [x]) z = pos f a z ++ if x = z then [f + a.length] else []
  | [], f => by show (if x = z then f :: [] else []) = [] ++ _; simp
  | y :: a, f => by
    show (if y = z then f :: pos (f + 1) (a ++ [x]) z else pos (f + 1) (a ++ [x]) z) = (if y = z then f :: pos (f + 1) a z else pos (f + 1) a z) ++ _
    rw [pos_snoc z x a (f + 1), List.length_cons, show f + 1 + a.length = f + (a.length + 1) by omega]
    by_cases h : y = z <;> simp [h]
theorem pos_map (z : Nat) : ∀ (a : List Nat) (f : Nat), pos f (a.map (· + 1)) (z + 1) = pos f a z
  | [], _ => rfl
  | y :: a, f => by
    show (if y + 1 = z + 1 then f :: pos (f + 1) (a.map _) (z + 1) else pos (f + 1) (a.map _) (z + 1)) = if y = z then f :: pos (f + 1) a z else pos (f + 1) a z
    rw [pos_map z a (f + 1)]
    by_cases h : y = z <;> simp [h]
theorem pos_map0 : ∀ (a : List Nat) (f : Nat), pos f (a.map (· + 1)) 0 = []
  | [], _ => rfl
  | y :: a, f => by
    show (if y + 1 = 0 then f :: pos (f + 1) (a.map _) 0 else pos (f + 1) (a.map _) 0) = []
    rw [pos_map0 a (f + 1), if_neg (by omega)]
theorem pos_zn : ∀ (l : List Bool) (f z : Nat), z < (grp l).length → (zn f (grp l))[z]? = some (pos f (zs l) z)
  | [], f, z, h => by
    have : z = 0 := by simpa [grp] using h
    subst this
    rfl
  | true :: l, f, z, h => by
    obtain ⟨g, r, e⟩ := List.exists_cons_of_ne_nil (grp_ne l)
    have ih := pos_zn l (f + 1) z (by rw [e]; rw [grp_t e] at h; simpa using h)
    rw [e] at ih
    rw [grp_t e]
    show (List.range' f (g + 1) :: zn (f + (g + 1)) r)[z]? = some (if 0 = z then f :: pos (f + 1) (zs l) z else pos (f + 1) (zs l) z)
    have ih : (List.range' (f + 1) g :: zn (f + 1 + g) r)[z]? = some (pos (f + 1) (zs l) z) := ih
    rw [show f + (g + 1) = f + 1 + g by omega, List.range'_succ]
    cases z with
    | zero =>
      rw [List.getElem?_cons_zero] at ih ⊢
      rw [← Option.some.inj ih]
      rfl
    | succ z =>
      rw [List.getElem?_cons_succ] at ih ⊢
      rw [ih, if_neg (by omega)]
  | false :: l, f, z, h => by
    show (List.range' f 0 :: zn (f + 0) (grp l))[z]? = some (pos f ((zs l).map (· + 1)) z)
    cases z with
    | zero => rw [pos_map0]; rfl
    | succ z =>
      rw [pos_map, List.getElem?_cons_succ, Nat.add_zero]
      refine pos_zn l f z ?_
      have h : z + 1 < (0 :: grp l).length := h
      simpa using h
theorem zn_len : ∀ (gs : List Nat) (f : Nat), (zn f gs).length = gs.length
  | [], _ => rfl
  | g :: r, f => by show (_ :: zn (f + g) r).length = _; rw [List.length_cons, zn_len r, List.length_cons]
theorem zones_eq (l : List Bool) : zones l = (List.range (l.count false + 1)).map fun z => pos 0 (zs l) z := by
  refine List.ext_getElem? fun z => ?_
  by_cases h : z < (grp l).length
  · show (zn 0 (grp l))[z]? = _
    rw [pos_zn l 0 z h, List.getElem?_map, List.getElem?_range (by rw [← grp_len]; exact h)]
    rfl
  · show (zn 0 (grp l))[z]? = _
    rw [List.getElem?_eq_none (by rw [zn_len]; omega), List.getElem?_eq_none (by rw [List.length_map, List.length_range, ← grp_len]; omega)]
theorem sp_lt : ∀ (l : List Bool) (j i : Nat) (p : Nat), (sp l)[j]? = some p → (p < i ↔ j < c l i)
  | [], j, i, p, h => by cases h
  | true :: l, j, 0, p, h => by simp [c]
  | false :: l, j, 0, p, h => by simp [c]
  | true :: l, j, i + 1, p, h => by
    have e : c (true :: l) (i + 1) = c l i + 1 := by unfold c; rw [List.take_succ_cons]; simp
    rw [e]
    have h : (0 :: (sp l).map (· + 1))[j]? = some p := h
    cases j with
    | zero =>
      have : 0 = p := Option.some.inj h
      omega
    | succ j =>
      rw [List.getElem?_cons_succ, List.getElem?_map] at h
      obtain ⟨q, hq, rfl⟩ := Option.map_eq_some_iff.mp h
      have := sp_lt l j i q hq
      omega
  | false :: l, j, i + 1, p, h => by
    have e : c (false :: l) (i + 1) = c l i := by unfold c; rw [List.take_succ_cons]; simp
    rw [e]
    have h : ((sp l).map (· + 1))[j]? = some p := h
    rw [List.getElem?_map] at h
    obtain ⟨q, hq, rfl⟩ := Option.map_eq_some_iff.mp h
    have := sp_lt l j i q hq
    omega
theorem sp_mem : ∀ (l : List Bool) (j p : Nat), (sp l)[j]? = some p → p < l.length
  | [], j, p, h => by cases h
  | true :: l, j, p, h => by
    have h : (0 :: (sp l).map (· + 1))[j]? = some p := h
    cases j with
    | zero =>
      have : 0 = p := Option.some.inj h
      simp only [List.length_cons]
      omega
    | succ j =>
      rw [List.getElem?_cons_succ, List.getElem?_map] at h
      obtain ⟨q, hq, rfl⟩ := Option.map_eq_some_iff.mp h
      have := sp_mem l j q hq
      simp only [List.length_cons]
      omega
  | false :: l, j, p, h => by
    have h : ((sp l).map (· + 1))[j]? = some p := h
    rw [List.getElem?_map] at h
    obtain ⟨q, hq, rfl⟩ := Option.map_eq_some_iff.mp h
    have := sp_mem l j q hq
    simp only [List.length_cons]
    omega
theorem c_succ {l : List Bool} {i : Nat} {b : Bool} (h : l[i]? = some b) : c l (i + 1) = c l i + if b then 1 else 0 := by
  unfold c
  rw [List.take_add_one, h, List.count_append]
  cases b <;> rfl
theorem c_all {l : List Bool} {i : Nat} (h : l.length ≤ i) : c l i = l.count true := by unfold c; rw [List.take_of_length_le h]
theorem c_le (l : List Bool) (i : Nat) : c l i ≤ l.count true := (List.take_sublist i l).count_le true
/-- the place of the j-th seeker -/
def spo (l : List Bool) (j : Nat) : Nat := (sp l)[j]?.getD 0
def pL (l : List Bool) (op : Nat → Bool) (j : Nat) : Bool := (List.range (spo l j + 1)).all op
def pR (l : List Bool) (op : Nat → Bool) (j : Nat) : Bool := (List.range' (spo l j + 1) (l.length - spo l j)).all op
def leftL (l : List Bool) (op : Nat → Bool) : List Nat := (List.range (l.count true)).filter (pL l op)
def rightL (l : List Bool) (op : Nat → Bool) : List Nat := (List.range (l.count true)).filter (pR l op)
def heardL (l : List Bool) (op : Nat → Bool) : List Nat := (List.range (l.count true)).filter fun j => pL l op j || pR l op j
theorem sp_at {l : List Bool} {j : Nat} (h : j < l.count true) : (sp l)[j]? = some (spo l j) := by
  unfold spo
  rw [List.getElem?_eq_getElem (by rw [sp_len]; exact h)]
  rfl
theorem fil_lt (n k : Nat) (h : k ≤ n) : (List.range n).filter (fun j => decide (j < k)) = List.range k := by
  induction n with
  | zero => rw [Nat.le_zero.mp h]; rfl
  | succ n ih =>
    rw [List.range_succ, List.filter_append]
    by_cases e : k ≤ n
    · rw [ih e]
      simp [show ¬ n < k by omega]
    · have : k = n + 1 := by omega
      subst this
      rw [List.filter_eq_self.mpr fun x m => by have := List.mem_range.mp m; exact decide_eq_true (by omega), List.range_succ]
      simp
theorem fil_ge (n k : Nat) : (List.range n).filter (fun j => !decide (j < k)) = (List.range n).drop k := by
  induction n with
  | zero => simp
  | succ n ih =>
    rw [List.range_succ, List.filter_append, ih]
    by_cases e : k ≤ n
    · rw [List.drop_append_of_le_length (by rw [List.length_range]; exact e)]
      simp [show ¬ n < k by omega]
    · rw [List.drop_of_length_le (by rw [List.length_range]; omega), List.drop_of_length_le (by rw [List.length_append, List.length_range, List.length_singleton]; omega)]
      simp [show n < k by omega]
theorem left_at {l : List Bool} {op : Nat → Bool} {i : Nat} (hi : i ≤ l.length) (a : ∀ k, k < i → op k = true) (b : i = l.length ∨ op i = false) : leftL l op = List.range (c l i) := by
  rw [← fil_lt (l.count true) (c l i) (c_le l i)]
  refine List.filter_congr fun j m => ?_
  have hj := List.mem_range.mp m
  have es := sp_at hj
  have k1 := sp_lt l j i _ es
  have k2 := sp_mem l j _ es
  by_cases h : spo l j < i
  · rw [decide_eq_true (k1.mp h)]
    refine List.all_eq_true.mpr fun x mx => a x ?_
    have := List.mem_range.mp mx
    omega
  · rw [decide_eq_false fun z => h (k1.mpr z)]
    rcases b with b | b
    · omega
    · refine Bool.eq_false_iff.mpr fun z => ?_
      have := List.all_eq_true.mp z i (List.mem_range.mpr (by omega))
      rw [b] at this
      cases this
theorem right_at {l : List Bool} {op : Nat → Bool} {i : Nat} (hi : i ≤ l.length) (a : ∀ k, i < k → k ≤ l.length → op k = true) (b : i = 0 ∨ op i = false) : rightL l op = (List.range (l.count true)).drop (c l i) := by
  rw [← fil_ge]
  refine List.filter_congr fun j m => ?_
  have hj := List.mem_range.mp m
  have es := sp_at hj
  have k1 := sp_lt l j i _ es
  have k2 := sp_mem l j _ es
  by_cases h : spo l j < i
  · rw [decide_eq_true (k1.mp h)]
    rcases b with b | b
    · omega
    · refine Bool.eq_false_iff.mpr fun z => ?_
      have := List.all_eq_true.mp z i (List.mem_range'_1.mpr (by omega))
      rw [b] at this
      cases this
  · rw [decide_eq_false fun z => h (k1.mpr z)]
    refine List.all_eq_true.mpr fun x mx => ?_
    have := List.mem_range'_1.mp mx
    exact a x (by omega) (by omega)
theorem drop_back {n k : Nat} (h : k < n) : (List.range n).drop k = k :: (List.range n).drop (k + 1) := by
  rw [List.drop_eq_getElem_cons (by rw [List.length_range]; exact h)]
  simp
/-- a fault: cut (true) or short, and its stretch -/
abbrev Ft := Bool × Nat
def opn (l : List Bool) (fs : List Ft) (k : Nat) : Bool := fs.all fun f => if f.1 then !decide (f.2 = k) else !decide (zone l f.2 = zone l k)
theorem opn_mono {l : List Bool} {f : Ft} {fs : List Ft} {k : Nat} (h : opn l (f :: fs) k = true) : opn l fs k = true := by
  unfold opn at *
  rw [List.all_cons, Bool.and_eq_true] at h
  exact h.2
theorem heard_mono {l : List Bool} {op op2 : Nat → Bool} (h : ∀ k, op k = true → op2 k = true) : ∀ j ∈ heardL l op, j ∈ heardL l op2 := fun j m => by
  unfold heardL at *
  obtain ⟨m1, m2⟩ := List.mem_filter.mp m
  refine List.mem_filter.mpr ⟨m1, ?_⟩
  rcases Bool.or_eq_true_iff.mp m2 with z | z
  · exact Bool.or_eq_true_iff.mpr (.inl (List.all_eq_true.mpr fun x mx => h x (List.all_eq_true.mp z x mx)))
  · exact Bool.or_eq_true_iff.mpr (.inr (List.all_eq_true.mpr fun x mx => h x (List.all_eq_true.mp z x mx)))
theorem heard_up (l : List Bool) (op : Nat → Bool) : (heardL l op).Pairwise (· < ·) := List.Pairwise.filter _ List.pairwise_lt_range
theorem heard_mem {l : List Bool} {op : Nat → Bool} {j : Nat} : j ∈ heardL l op ↔ j ∈ leftL l op ∨ j ∈ rightL l op := by
  unfold heardL leftL rightL
  rw [List.mem_filter, List.mem_filter, List.mem_filter, Bool.or_eq_true]
  exact ⟨fun ⟨a, b⟩ => b.elim (fun z => .inl ⟨a, z⟩) fun z => .inr ⟨a, z⟩, fun z => z.elim (fun ⟨a, b⟩ => ⟨a, .inl b⟩) fun ⟨a, b⟩ => ⟨a, .inr b⟩⟩
theorem zone_le (l : List Bool) (k : Nat) : zone l k ≤ l.count false := (List.take_sublist k l).count_le false
end Rm

/-! range(n) as a value, walked later. -/
namespace Rgv
open PySem PySem.Spec PyProof.Rows L2
section
variable {X : Cx} {tg : Expr}
theorem cr_range1 : CallR X (.type "range") (fun vs H Q => ∃ j, vs = [V.int j] ∧ ∀ p, H p = none → Q (.ref p) (upd H p (.rng 0 j))) := by
  intro pins s σ H vs us Q I r h
  obtain ⟨j, rfl, q⟩ := h
  obtain ⟨u1, rfl, ri⟩ := r.one
  obtain ⟨t, rfl⟩ := ri
  refine call_range_1 ⟨.ref s.heap.objs.size, upd H s.heap.objs.size (.rng 0 j), I.laid (t' := s.toks + 2) (fun b o e => Heap.get?_push_of_some _ e) (Nat.le_refl _) ?_, rfl, q _ (I.hok.fresh (Nat.le_refl _))⟩
  exact ⟨_, t, s.toks + 1, Heap.get?_push_size _ rfl⟩
def iRgv (te : TE) : TI := fun σ H R => te σ H fun x H1 => ∃ (a : Addr) (lo hi : Int), x = .ref a ∧ H1 a = some (.rng lo hi) ∧ (-(2 ^ 62) ≤ lo ∧ lo < 2 ^ 62 ∧ -(2 ^ 62) ≤ hi ∧ hi < 2 ^ 62) ∧ R (Itr lo (hi - lo).toNat) H1
theorem pi_rgv {e : Expr} {te : TE} (he : PE X e te) : PI X tg e (iRgv te) := by
  refine ⟨fun pins s σ H R I h => ?_⟩
  refine thn (he.run pins s σ H _ I h) fun v s1 ⟨x, H1, I1, r1, a, lo, hi, ex, ha, ⟨h1, h2, h3, h4⟩, q⟩ => ?_
  subst ex
  obtain rfl : v = Value.ref a := r1
  obtain ⟨t, u, v, ho⟩ := I1.hok a _ ha
  refine wpAny_pyIter_range ho (small_one h1 h2 h3 h4) ?_
  refine ⟨s1.heap.objs.size, [s1.heap.objs.size], _, _, H1, rfl, I1.kept (t' := s1.toks) fun b o e => Heap.get?_push_of_some _ e, turn_range _ lo (hi - lo).toNat, ?_, fun b hb => ?_, q⟩
  · have e1 : lo + ((0 : Nat) : Int) * 1 = lo := by simp
    have e2 : (((hi - lo).toNat : Nat) : Int) - ((0 : Nat) : Int) = Builtin.Range.rangeSize lo hi 1 := by rw [rangeSize_one]; split <;> omega
    show IsRangeIter _ _ (lo + ((0 : Nat) : Int) * 1) ((((hi - lo).toNat : Nat) : Int) - ((0 : Nat) : Int)) 1
    rw [e1, e2]
    exact Heap.get?_push_size _ rfl
  · have e : b = s1.heap.objs.size := by simpa using hb
    subst e
    exact I1.fpOk (Nat.le_refl _) (I1.hok.fresh (Nat.le_refl _))
end
end Rgv

/-! iter(text) as a value; list(x), x with an __iter__ that gives such a one, and an own __len__; yield from a list. -/
namespace Si2
open PySem PySem.Spec PyProof.Rows L2 ItX
abbrev AIt (h : Heap) (it : Addr) (x : Str) (i : Nat) : Prop := ∃ t, h.IsStrIter it "str_ascii_iterator" x t i
def sgs (x : Str) : List V := x.cps.toList.map fun c => V.str ⟨#[c]⟩
/-- an iterator of the text x, not begun -/
def SiO (x : Str) (it : Addr) : HO := .ext fun h => AIt h it x 0
theorem si_at {h h' : Heap} {it : Addr} {x : Str} {i : Nat} (y : AIt h it x i) (k : ∀ o, h.get? it = some o → h'.get? it = some o) : AIt h' it x i := by
  obtain ⟨t, o, e, r⟩ := y
  exact ⟨t, o, k o e, r⟩
theorem si_ok {P : Program} {w : World} {H : Hp} {h : Heap} {it : Addr} {x : Str} (y : AIt h it x 0) : ObjOk P w H h it (SiO x it) :=
  ⟨y, by obtain ⟨_, o, e, _⟩ := y; exact ⟨o, e⟩, fun _ _ p k => si_at p k⟩
theorem ai_ty {s : Shared} {it : Addr} {x : Str} {i : Nat} (y : AIt s.heap it x i) : s.TypeIs (.ref it) "str_ascii_iterator" := let ⟨_, o, e, c, _⟩ := y; ⟨o, e, c⟩
def rIterS : List V → Hp → VK → Prop := fun xs H Q => ∃ x : Str, xs = [.str x] ∧ x.cps.all (· < 128) = true ∧ ∀ it, H it = none → (∀ b o, H b = some o → b < it) → Q (.ref it) (upd H it (SiO x it))
section
variable {X : Cx}
theorem call_iterS : CallR X (.builtin "iter") rIterS := by
  intro pins s σ H xs us Q I r h
  obtain ⟨x, rfl, ha, q⟩ := h
  obtain ⟨u, rfl, ru⟩ := r.one
  obtain ⟨t, rfl⟩ := ru
  refine Calls.call_function_entry (by decide +kernel) (by decide +kernel) PySem.W.kdk_entry_iter (PySem.W.kdk_args_iter _) ?_
  unfold Builtin.«iter»
  refine wpAny_bind (m := someArgs "iter" 1 2 _) (wpAny_of_eq (a := [Value.str x t]) (by first | rfl | kernel_rfl!) ?_)
  show wpAny _ _ (pyIter (.str x t) >>= _) _ _ _
  refine wpAny_bind (wpAny_pyIter_ascii ha (wpAny_pure ⟨_, rfl, ?_⟩))
  refine ⟨.ref s.heap.objs.size, _, I.laid (t' := s.toks) (fun b u e => Heap.get?_push_of_some _ e) (Nat.le_refl _) (si_ok ⟨t, _, Heap.get?_push_size _ rfl, rfl, rfl⟩), rfl, q _ (I.hok.fresh (Nat.le_refl _)) fun b o e => ?_⟩
  exact (I.hok b o e).lt
end
section
variable {X : Cx} {pins : List (Addr × Obj)} {σ : L2.St} {q it : Addr} {x : Str} {A1 : Around} {Rs : Result → Shared → Prop}
/-- the list at q takes what the iterator gives -/
theorem fill (hh : A1.in1.handled = none) (few : (sgs x).length ≤ 1000) : ∀ (k i : Nat) (H : Hp) (s : Shared), (sgs x).length - i = k → i ≤ (sgs x).length → Inv X pins σ H s → H q = some (.lst ((sgs x).take i)) → FpOk X pins H it → AIt s.heap it x i →
    (∀ s', Inv X pins σ (upd H q (.lst (sgs x))) s' → Rs (.ok (.ret .none)) s') → codeAny (model X.prog X.w) A1 (.builtin "list.extend.loop" ⟨[.ref q, .ref it, .none], []⟩) Rs s := by
  intro k
  have sz := sizeLine_eq
  induction k with
  | zero =>
    intro i H s hk hi I hq fp st hd
    have e : i = (sgs x).length := by omega
    subst e
    obtain ⟨t, st⟩ := st
    obtain ⟨f0, f1, f2, f3, f4, f5⟩ := fp
    refine codeAny_builtin PySem.F.entry_extend_loop ?_
    rw [Around.under_plainId PySem.F.plain_extend_loop _]
    show wpAny _ A1.in1 (pyNext (.ref it) >>= _) _ _ s
    refine wpAny_bind (wpAny_pyNext_ascii_end hh st (Array.getElem?_eq_none (by rw [← Array.length_toList]; show x.cps.toList.length ≤ (sgs x).length; simp [sgs])) fun h' ex => ?_)
    have I1 := I.turned (t' := s.toks) (h' := h') (fun b o nb e => ex b o nb e) f0 f1 f3 f4 f5
    rw [List.take_length] at hq
    have e : upd H q (.lst (sgs x)) = H := by
      funext b
      by_cases c : b = q
      · rw [c, upd_same, hq]
      · rw [upd_ne c]
    exact wpAny_pure (hd _ (by rw [e]; exact I1))
  | succ k ih =>
    intro i H s hk hi I hq fp st hd
    have lt : i < (sgs x).length := by omega
    obtain ⟨t, st⟩ := st
    have lt2 : i < x.cps.size := by rw [← Array.length_toList]; simpa [sgs] using lt
    obtain ⟨f0, f1, f2, f3, f4, f5⟩ := id fp
    refine codeAny_builtin PySem.F.entry_extend_loop ?_
    rw [Around.under_plainId PySem.F.plain_extend_loop _]
    show wpAny _ A1.in1 (pyNext (.ref it) >>= _) _ _ s
    refine wpAny_bind (wpAny_pyNext_ascii_item st (c := x.cps[i]) (Array.getElem?_eq_getElem lt2) fun h' st' sb => ?_)
    have I1 := I.turned (t' := s.toks + 1) (h' := h') (fun b o nb e => (sb.2 b nb).trans e) f0 f1 f3 f4 f5
    obtain ⟨z, ls, kk, r2, hl, e⟩ := I1.lstM hq
    have ll := r2.length
    rw [List.length_take] at ll
    show wpAny _ A1.in1 (updateSeq q (·.push (.str ⟨#[x.cps[i]]⟩ s.toks)) >>= _) _ _ _
    have nq : it ≠ q := fun c => by rw [← c, f0] at hq; cases hq
    refine wpAny_bind (wpAny_updateSeq e rfl (wpAny_pure ⟨plainId_quiet PySem.F.plain_extend_loop _, ?_⟩) (by rw [List.size_toArray]; omega) (by show (ls.toArray.push (.str ⟨#[x.cps[i]]⟩ s.toks)).size ≤ sizeLine + 1; rw [Array.size_push, List.size_toArray]; omega))
    have I2 := I1.lset (f := (·.push (.str ⟨#[x.cps[i]]⟩ s.toks))) (its' := ls ++ [.str ⟨#[x.cps[i]]⟩ s.toks]) (t' := s.toks + 1) hq e (by simp) (ys := (sgs x).take i ++ [V.str ⟨#[x.cps[i]]⟩]) (r2.append (.cons ⟨_, rfl⟩ .nil)) (by rw [List.length_append, List.length_singleton, List.length_take]; omega)
    have tk : (sgs x).take i ++ [V.str ⟨#[x.cps[i]]⟩] = (sgs x).take (i + 1) := by rw [List.take_add_one, List.getElem?_eq_getElem lt]; simp [sgs]
    rw [tk] at I2
    refine ih (i + 1) _ _ (by omega) lt I2 upd_same ⟨by rw [upd_ne nq]; exact f0, f1, f2, f3, f4, f5⟩ (si_at ⟨t, st'⟩ fun o e => (Heap.get?_update_other _ _ (Ne.symm nq)).trans e) fun s' I' => hd s' (by rw [upd_upd] at I'; exact I')
end
section
variable {X : Cx} {C fi fl : Addr} {spI spL : Sp} {EI EL : XK} {n : Nat}
/-- list(x): its __iter__ gives an iterator of a tuple, its __len__ a number -/
def rListItS (K : PySem.W.Frag) (C : Addr) (spI spL : Sp) (EI EL : XK) : List V → Hp → VK → Prop := fun xs H Q => ∃ a dx fs, xs = [.ref a] ∧ H a = some (.ins C dx fs) ∧ ∀ q, H q = none → spI [.ref a] (upd H q (.lst []))
  (fun v H1 => ∃ it x, v = .ref it ∧ H1 it = some (SiO x it) ∧ q < it ∧ (sgs x).length ≤ 1000 ∧ H1 q = some (.lst []) ∧ H1 a = some (.ins C dx fs) ∧
    spL [.ref a] H1 (fun z H2 => ∃ i : Int, z = .int i ∧ 0 ≤ i ∧ i < 1000 ∧ H2 = H1 ∧ Q (.ref q) (upd (dropH H1 it) q (.lst (sgs x)))) EL) EI
theorem call_listItS (hs : PySem.W.findIn X.K (.ref C) "__iter__" = some (some (.ref fi))) (hf : PySem.W.isFn X.K (.ref fi) = true) (hl : PySem.W.findIn X.K (.ref C) "__len__" = some (some (.ref fl))) (hlf : PySem.W.isFn X.K (.ref fl) = true)
    (FI : FnR X.prog X.w X.K X.mg X.base CX0 n fi spI) (FL : FnR X.prog X.w X.K X.mg X.base CX0 n fl spL) (hc : X.calm = true) (hr : Room (n + 4) X.A) : CallR X (.type "list") (rListItS X.K C spI spL EI EL) := by
  intro pins s σ H xs us Q I rv h
  obtain ⟨a, dx, fs, rfl, ha, hq⟩ := h
  obtain ⟨u, rfl, ru⟩ := rv.one
  cases (show u = Value.ref a from ru)
  have sb : Sub X (n + 1) X.A.in1.in1.in1 := Sub.in1 (Sub.in1 (Sub.in1 ⟨hr, rfl⟩))
  refine callType_codes (Q₁ := fun obj s₁ => obj = .ref s.heap.objs.size ∧ s₁ = { s with heap := s.heap.push { cls := .type "list", data := .seq #[] } })
    PySem.F.called_list (PySem.F.typeCall_list_1 _) PySem.F.entry_list_init (code_list_new _ ⟨rfl, rfl⟩) fun obj s₁ h₁ => ?_
  obtain ⟨rfl, rfl⟩ := h₁
  have hS : (s.heap.push { cls := .type "list", data := .seq #[] }).get? s.heap.objs.size = some { cls := .type "list", data := .seq #[] } := Heap.get?_push_size _ rfl
  refine ⟨⟨_, hS, rfl⟩, PySem.F.args_list_init_2 _ _, ?_⟩
  have fr : H s.heap.objs.size = none := I.hok.fresh (Nat.le_refl _)
  have hsp := hq _ fr
  have young : X.s_0.heap.objs.size ≤ s.heap.objs.size := I.sz
  have I1 : Inv X pins σ (upd H s.heap.objs.size (.lst [])) { s with heap := s.heap.push { cls := .type "list", data := .seq #[] } } := I.lnew (its := []) (t' := s.toks) .nil (Nat.zero_le _)
  show wpAny _ _ (Builtin.List.listItems (.ref s.heap.objs.size) >>= fun old => Builtin.List.listUpdate (.ref s.heap.objs.size) (fun _ => #[]) >>= fun _ => letGo old.toList.reverse >>= fun _ => Builtin.List.listExtendWith (.ref s.heap.objs.size) (.ref a) .none) _ _ _
  refine wpAny_bind ?_
  unfold Builtin.List.listItems
  refine wpAny_bind (wpAny_seqItems hS rfl (wpAny_pure ?_))
  show wpAny _ _ (updateSeq s.heap.objs.size (fun _ => #[]) >>= fun _ => letGo (#[] : Array Value).toList.reverse >>= fun _ => Builtin.List.listExtendWith (.ref s.heap.objs.size) (.ref a) .none) _ _ _
  refine wpAny_bind (wpAny_updateSeq hS rfl ?_)
  have I2 := I1.lset (f := fun _ => #[]) (its := []) (its' := []) (ys := []) (t' := s.toks) upd_same hS rfl .nil (Nat.zero_le _)
  rw [upd_upd] at I2
  refine wpAny_bind (wpAny_letGo ?_)
  have ha2 : upd H s.heap.objs.size (.lst []) a = some (.ins C dx fs) := by rw [upd_ne (ne_of_none ha fr)]; exact ha
  have nqa : s.heap.objs.size ≠ a := (ne_of_none ha fr).symm
  have low : s.heap.objs.size < ({ s with heap := (s.heap.push { cls := .type "list", data := .seq #[] }).update s.heap.objs.size (Obj.mapSeq fun _ => #[]) } : Shared).heap.objs.size := (I2.hok _ _ upd_same).lt
  generalize hq0 : s.heap.objs.size = q at *
  generalize ({ s with heap := (s.heap.push { cls := .type "list", data := .seq #[] }).update q (Obj.mapSeq fun _ => #[]) } : Shared) = s1 at *
  generalize hH1 : upd H q (.lst []) = H1 at *
  have hq1 : H1 q = some (.lst []) := by rw [← hH1]; exact upd_same
  obtain ⟨ox, od, J⟩ := Ow.ins_at I2 ha2
  obtain ⟨m0, hF⟩ := I2.fr
  unfold Builtin.List.listExtendWith
  refine wpAny_bind (J.type.here ?_)
  have b1 : Builtin.List.listSameRef (.ref q) (.ref a) = false := by simp [Builtin.List.listSameRef, nqa]
  have b2 : (Value.ref C == Value.type "list") = false ∧ (Value.ref C == Value.type "tuple") = false := ⟨rfl, rfl⟩
  simp only [b1, b2.1, b2.2, Bool.or_false, Bool.false_eq_true, if_false]
  refine wpAny_bind (PySem.W.owit_iter hF I2.ok.mod.kin J hs hf ?_)
  have env : ∀ {s2 : Shared} {H2 : Hp}, Inv X pins σ H2 s2 → Env0 X.prog X.w X.K X.mg X.base X.A.in1.in1 X.stack s2 H2 := fun I => by
    have e := I.env0
    exact ⟨e.frames, e.mod, e.bs, e.bsz, e.funs, e.frf, e.hok, e.bare⟩
  have room0 : Room (n + 1) X.A.in1.in1 := (hr.in1.in1).mono (by omega)
  have room1 : Room n X.A.in1.in1 := room0.mono (by omega)
  refine wpAny_mono (wpAny_call (Li.sure_at (us := [.ref a]) (ws := [.ref a]) FI room1 (env I2) I2 (.cons rfl .nil) hsp)) (fun v s3 hv => ?_) fun _ _ x => x.elim
  obtain ⟨v', H3, I3, rv3, it, x, rfl, hit, qlt, few, hq3, ha3, hsp2⟩ := hv
  cases (show v = Value.ref it from rv3)
  have st3 : AIt s3.heap it x 0 := (I3.hok it _ hit).1
  unfold PySem.W.OwitIt
  refine wpAny_specialOf (name := Str.ofString "__next__") (ai_ty st3) PySem.F.slot_str_ascii_iterator_next.lookup ?_
  refine wpAny_bind (wpAny_holding ?_)
  unfold Builtin.List.listLengthHint
  obtain ⟨ox3, od3, J3⟩ := Ow.ins_at I3 ha3
  obtain ⟨m3, hF3⟩ := I3.fr
  refine wpAny_bind (wpAny_bind (J3.type.here ((PySem.W.looks_findIn I3.kIn hl).here ?_)))
  refine PySem.W.KFB.if_not rfl ?_
  refine wp_if_pos rfl (wpAny_bind (wpAny_rule (wpAny_bind (wpAny_attempt ?_))))
  refine PySem.W.len_K hF3 I3.ok.mod.kin J3 hl hlf (wpAny_mono (wpAny_call (Li.sure_at (us := [.ref a]) (ws := [.ref a]) FL (room0.in1) (env I3).in1 I3 (.cons rfl .nil) hsp2)) (fun w s4 z => ?_) fun _ _ x => x.elim)
  obtain ⟨z', H4, I4, rz, i, rfl, h0, h1, rfl, qz⟩ := z
  obtain ⟨tk, e⟩ := (show ∃ tk, w = Value.int i tk from rz)
  cases e
  refine ⟨⟨h0, by omega⟩, ?_⟩
  dsimp only
  refine wpAny_bind (wpAny_of_eq (a := some i) rfl ?_)
  have sl := sizeLine_eq
  refine wp_if_neg (by unfold Builtin.List.listTooLong; rw [decide_eq_true_eq]; omega) (wpAny_pure ?_)
  have I5 := inv_drop (I4.tok (s4.toks + 1)) hit
  have fp : FpOk X pins (dropH H4 it) it := inv_fp I4 hit (Nat.le_trans young (Nat.le_of_lt qlt))
  have nqi : q ≠ it := Nat.ne_of_lt qlt
  have hq5 : dropH H4 it q = some (.lst []) := (dropH_ne nqi).trans hq3
  have st5 : AIt s4.heap it x 0 := (I4.hok it _ hit).1
  have hh : X.A.in1.in1.handled = none := by simp [I.ok.hd hc]
  have go : ∀ s6 : Shared, Inv X pins σ (dropH H4 it) s6 → AIt s6.heap it x 0 → codeAny (model X.prog X.w) X.A.in1 (.builtin "list.extend.loop" ⟨[.ref q, .ref it, .none], []⟩) (wants (fun r s₂ => r = .none ∧ EP X pins σ Q (.ref q) s₂) X.xe) s6 := fun s6 I6 st6 =>
    fill (x := x) hh few ((sgs x).length - 0) 0 _ s6 rfl (Nat.zero_le _) I6 hq5 fp st6 fun s7 I7 => ⟨rfl, ⟨.ref q, _, I7, rfl, qz⟩⟩
  refine wpAny_ite_split (fun _ => ?_) fun _ => wpAny_pure ⟨plainId_quiet PySem.F.plain_extend_loop _, go _ I5 st5⟩
  refine wpAny_bind (wpAny_rule (wpAny_bind ?_))
  obtain ⟨z5, its5, k5, r5, l5, e5⟩ := I5.lstM hq5
  cases r5
  show wpAny _ _ (updateSeq q (·.push Value.none) >>= fun _ => updateSeq q (·.pop)) _ _ _
  refine wpAny_bind (wpAny_updateSeq e5 rfl ?_)
  have I6 := I5.lset (f := (·.push Value.none)) (its' := [Value.none]) (ys := [.non]) (t' := s4.toks + 1) hq5 e5 (by simp) (.cons rfl .nil) (by rw [List.length_singleton, sl]; decide)
  obtain ⟨z6, its6, k6, r6, l6, e6⟩ := I6.lstM upd_same
  obtain ⟨u6, rfl, ru6⟩ := r6.one
  refine wpAny_updateSeq e6 rfl ?_ (by show 1 ≤ sizeLine; rw [sl]; decide) (by show 0 ≤ sizeLine + 1; exact Nat.zero_le _)
  have I7 := I6.lset (f := (·.pop)) (its := [u6]) (its' := []) (ys := []) (t' := s4.toks + 1) upd_same e6 (by rfl) .nil (Nat.zero_le _)
  rw [upd_upd, show upd (dropH H4 it) q (.lst []) = dropH H4 it from funext fun b => by
    by_cases c : b = q
    · rw [c, upd_same, hq5]
    · rw [upd_ne c]] at I7
  refine wpAny_pure ⟨plainId_quiet PySem.F.plain_extend_loop _, go _ I7 (si_at st5 fun o e => ?_)⟩
  exact (Heap.get?_update_other _ _ nqi).trans ((Heap.get?_update_other _ _ nqi).trans e)
end

section
variable {prog : Program} {w : World} {A : Around} {E : Value → Shared → Prop} {s : Shared}
theorem special_lst_item {it l : Addr} {i : Nat} {items : Array Value} {x : Value} {Q : Option Value → Shared → Prop} (hit : s.heap.IsListIter it l i) (hl : s.heap.IsList l items) (hx : items[i]? = some x)
    (hQ : ∀ h', h'.IsListIter it l (i + 1) → Heap.SameBut it s.heap h' → Q (some x) { s with heap := h' }) : wpAny (model prog w) A (callSpecial? (.ref it) "__next__") Q E s := by
  obtain ⟨o, ho, hc, hd⟩ := id hit
  obtain ⟨ol, hol, _, nl, hdl⟩ := hl
  refine wpAny_callSpecial?_slot (name := Str.ofString "__next__") hit.typeIs slot_listiter_next (wpAny_call_entry slot_listiter_next hit.typeIs entry_listiter_next ?_ (args_listiter_next _))
  show wpAny _ _ (field (.ref it) 0 >>= _) _ _ s
  refine wpAny_bind (wpAny_field ho hd (x := .ref l) rfl ?_)
  show wpAny _ _ (if (Value.ref l == Value.none) = true then _ else _) _ _ s
  rw [if_neg (show ¬ ((Value.ref l == Value.none) = true) from Bool.false_ne_true)]
  show wpAny _ _ (field (.ref it) 1 >>= _) _ _ s
  refine wpAny_bind (wpAny_field ho hd (x := .int i 0) rfl ?_)
  show wpAny _ _ (seqItems? (.ref l) >>= _) _ _ s
  refine wpAny_bind (wpAny_seqItems hol hdl ?_)
  simp only [Int.toNat_natCast, hx]
  refine wpAny_bind (wpAny_setField ho hd (by simp) (wpAny_pure ⟨x, rfl, hQ _ ?_ (Heap.SameBut.update ..)⟩))
  exact ⟨_, Heap.get?_update_self _ ho (Obj.isFreed_of_fields (Obj.data_mapFields hd _)), (Obj.cls_mapFields ..).trans hc, by
    rw [Obj.data_mapFields hd]; simp [rawInt]⟩
theorem special_lst_end {it l : Addr} {i : Nat} {items : Array Value} {Q : Option Value → Shared → Prop} (hh : A.handled = none) (hit : s.heap.IsListIter it l i) (hl : s.heap.IsList l items) (hx : items[i]? = none)
    (hE : ∀ e h', StopX e h' → Heap.ExtBut it s.heap h' → E e { s with heap := h' }) : wpAny (model prog w) A (callSpecial? (.ref it) "__next__") Q E s := by
  obtain ⟨o, ho, hc, hd⟩ := id hit
  obtain ⟨ol, hol, _, nl, hdl⟩ := hl
  refine wpAny_callSpecial?_slot (name := Str.ofString "__next__") hit.typeIs slot_listiter_next (wpAny_call_entry slot_listiter_next hit.typeIs entry_listiter_next ?_ (args_listiter_next _))
  show wpAny _ _ (field (.ref it) 0 >>= _) _ _ s
  refine wpAny_bind (wpAny_field ho hd (x := .ref l) rfl ?_)
  show wpAny _ _ (if (Value.ref l == Value.none) = true then _ else _) _ _ s
  rw [if_neg (show ¬ ((Value.ref l == Value.none) = true) from Bool.false_ne_true)]
  show wpAny _ _ (field (.ref it) 1 >>= _) _ _ s
  refine wpAny_bind (wpAny_field ho hd (x := .int i 0) rfl ?_)
  show wpAny _ _ (seqItems? (.ref l) >>= _) _ _ s
  refine wpAny_bind (wpAny_seqItems hol hdl ?_)
  simp only [Int.toNat_natCast, hx]
  refine wpAny_bind (wpAny_rule (wpAny_bind (wpAny_setField ho hd (by simp) ?_)))
  show wpAny _ _ (newExc (.type "StopIteration") [] >>= _) _ _ _
  refine wpAny_bind ?_
  simp only [newExc, newTuple]
  refine wpAny_bind (wpAny_newObj_type ?_ (by size_fits))
  refine wpAny_bind (m := firstArgMember _ _) (wpAny_of_eq (a := Value.none) (by first | rfl | (simp only [firstArgMember]; rfl)) ?_)
  refine wpAny_newObj_type ?_ (by size_fits)
  simp only [raiseNew]
  refine wpAny_bind (wpAny_handled ?_)
  first | rw [show A.in1.handled = none from hh] | rw [hh]
  refine wpAny_bind (wpAny_pure (wpAny_throw ?_))
  refine hE _ _ ⟨_, _, _, rfl, Heap.get?_push_size _ rfl, rfl, rfl, ?_⟩ (((Heap.SameBut.update ..).extBut.push _).push _)
  first
    | rfl
    | (rw [Array.getElem?_append_left (by decide)]; rfl)
    | kernel_rfl
end
section
variable {X : Cx} {e : Expr} {te : TE}
def tYfLst (te : TE) : TYf := fun σ H Q => te σ H fun x H1 => ∃ a xs, x = .ref a ∧ H1 a = some (.lst xs) ∧ Q xs H1
theorem close_lst : typeLookup (.type "list_iterator") "close" = pure none := by rw [typeLookup_type, builtinLookup_eq_fast]; kernel_rfl
theorem yf_lst (he : PE X e te) : YfE X e (tYfLst te) := by
  refine ⟨fun pins s σ H Q I h => ?_⟩
  refine thn (he.run pins s σ H _ I h) fun v s1 ⟨x, H1, I1, r1, a, xs, ex, ha, hq⟩ => ?_
  subst ex
  obtain rfl : v = Value.ref a := r1
  obtain ⟨its, rits, pl, hlen⟩ := I1.list (SqL.of ha)
  have ht : s1.heap.IsList a its.toArray := pl.isList
  refine ⟨"list", ht.typeIs, by decide, wpAny_pyIter_list ht ?_⟩
  have lta : a < s1.heap.objs.size := let ⟨_, e, _⟩ := ht; Heap.lt_size e
  have ksz : ∀ b o, s1.heap.get? b = some o → b ≠ s1.heap.objs.size := fun b o e => Nat.ne_of_lt (Heap.lt_size e)
  have kp : ∀ b o, s1.heap.get? b = some o → (s1.heap.push { cls := .type "list_iterator", data := .fields #[.ref a, .int 0 0] }).get? b = some o := fun b o e => Heap.get?_push_of_some _ e
  refine ⟨s1.heap.objs.size, H1, xs, fun j h => h.IsListIter s1.heap.objs.size a j ∧ h.IsList a its.toArray, rfl, I1.kept (t' := s1.toks) kp, .inr I1.sz, Nat.ne_of_gt I1.lt, fun y c hy => ?_, I1.hok.fresh (Nat.le_refl _), fun p hp => ?_,
    ⟨⟨_, Heap.get?_push_size _ rfl, rfl, rfl⟩, ht.push _⟩, ⟨⟨"list_iterator", fun j h q => ?_, close_lst, by decide⟩, fun j h h' q hk => ?_, fun A' j x s2 Q' E' hA hx q hQ => ?_, fun A' s2 Q' E' hA q hE => ?_⟩, hq⟩
  · obtain ⟨v, o, ho, _⟩ := I1.cell y c hy
    exact ksz c o ho
  · exact ksz p.1 _ (I1.pin p hp).1
  · obtain ⟨⟨o, ho, hc, _⟩, _⟩ := q
    exact ⟨o, ho, hc⟩
  · obtain ⟨⟨o, ho, r⟩, o2, ho2, r2⟩ := q
    exact ⟨⟨o, hk _ o (.inl rfl) ho, r⟩, o2, hk _ o2 (.inr (by rw [ha]; exact fun z => by cases z)) ho2, r2⟩
  · obtain ⟨q1, q2⟩ := q
    obtain ⟨u, hu, ru⟩ := rits.get hx
    have hne : a ≠ s1.heap.objs.size := Nat.ne_of_lt lta
    exact special_lst_item q1 q2 (x := u) (by simpa using hu) fun h' q1' hs => hQ u h' s2.toks ru ⟨q1', q2.extBut hs.extBut hne⟩ fun b o hb eb => hs.extBut b o hb eb
  · obtain ⟨q1, q2⟩ := q
    have hnone : its.toArray[xs.length]? = none := by
      have e := rits.length
      have e2 : its[xs.length]? = none := List.getElem?_eq_none_iff.mpr (by omega)
      simpa using e2
    exact special_lst_end hA q1 q2 hnone fun e h' hS hk => hE e h' s2.toks hS fun b o hb eb => hk b o hb eb
end
end Si2

/-! list(text); a call that may raise in a try, where no StopIteration comes. -/
namespace St2
open PySem PySem.Spec PyProof.Rows L2
theorem passLN {X : Cx} {W : WX} (n : Nat) (hn : X.N.length = n) (tk : Takes X W) : Passes (L2.CX X.prog X.w) X (fun cls d H => PySem.W.subIn X.K cls (.type "StopIteration") = some false ∧ ∀ σ : L2.St, σ.length = n → W cls d σ H) :=
  fun _ σ _ _ e s' I c => tk e s' (XE.of_call I (fun _ _ _ h => h.2 σ (I.len.trans hn)) c)
theorem pss_two {X : Cx} {a b : Stmt} {t u v : TS} (h : PS X a t) (g : PS X b u) (e : v = tSeq t u) : PSs X [a, b] v := by
  subst e
  exact pss_cons h (pss_one g)
/-- C(e, ..) whose __init__ may raise: what is raised is wished for at the slots as they stand -/
def tMakeS (C : Addr) (sp : Sp) (E : L2.St → XK) (t : TA) : TE := fun σ H Q => t σ H fun vs H1 => ∀ x dx, H1 x = none → H1 dx = none → dx ≠ x →
  sp (.ref x :: vs) (upd (upd H1 dx (.own x)) x (.ins C dx [])) (fun v H2 => v = .non ∧ Q (.ref x) H2) (E σ)
theorem pe_makeS {X : Cx} {CX : CXT} {k : Nat} {f C : Addr} {fd : FuncData} {ps : List Str} {sp : Sp} {E : L2.St → XK} {x : Str} {p pos : Pos} {e : Expr} {es : List Expr} {t : TA} (M : Mk X.K C f) (F : FnOk X.prog X.w X.K X.mg X.base CX k f fd ps sp) (hr : Room (k + 1) X.A) (hg : Gl X x) (hm : X.mg x = some (.ref C)) (hb : Binds X.K fd ps [])
    (hx : ∀ σ, PassesAt CX X σ (E σ)) (ha : PA X (e :: es) t) (hdb : (x == ("__debug__" : Str)) = false := by decide) (he : starEach (e :: es) X.env = (false, eval e X.env) :: starEach es X.env := by rfl) (hpl : (backTo pos (starEach es X.env)).any (·.1) = false := by rfl) :
    PE X (.Call (.Name x p) (e :: es) [] pos) (tMakeS C sp E t) := by
  constructor
  intro pins s σ H Q I h
  refine wpAny_Call_Name_kw (ld_glob I hg hm ?_ hdb)
  refine PySem.W.callWith_K (h₀ := X.base) I.ok.mod.kin M.kp (thn (ha.run pos pins s σ H _ I h) fun us s1 w => ?_) he hpl
  obtain ⟨vs, H1, J, r, q⟩ := w
  refine ⟨J.kIn, ?_⟩
  have free := J.hok.fresh (Nat.le_refl s1.heap.objs.size)
  have go := q (s1.heap.objs.size + 1) _ (J.hok.fresh (Nat.le_succ _)) free (Nat.ne_of_lt (Nat.lt_succ_self _))
  have J2 := Inv.made (C := C) J
  have r2 : Vals (V.ref (s1.heap.objs.size + 1) :: vs) (Value.ref (s1.heap.objs.size + 1) :: us) := .cons rfl r
  have many := (r2.length.symm.trans (F.len _ _ _ _ go)).trans rfl
  have bound := hb _ (Value.ref (s1.heap.objs.size + 1) :: us) J2.kIn (by rw [List.append_nil]; exact many)
  rw [List.append_nil] at bound
  have ran := F.run _ X.stack _ _ _ _ _ _ (E σ) (hr.make C us []) (J2.env0.make C us []) bound r2 go
  refine wpAny_call (make_map (f := f) J.kIn M.makes M.init (beq_iff_eq.mp M.fn) (codeAny_mono ran fun z t2 hz => ?_))
  match z, hz with
  | .error _, hz => exact hx σ pins _ _ _ _ J2 hz
  | .ok (.ret _), hz =>
    obtain ⟨_, _, J3, rv, ev, q3⟩ := J2.after hz
    subst ev
    exact ⟨rv, V.ref (s1.heap.objs.size + 1), _, J3, rfl, q3⟩
  | .ok .next, hz => exact hz.elim
  | .ok .brk, hz => exact hz.elim
  | .ok .cont, hz => exact hz.elim
theorem noStop {K : PySem.W.Frag} {P : Value → Option Addr → Hp → Prop} : NoStop K (fun cls d H => PySem.W.subIn K cls (.type "StopIteration") = some false ∧ P cls d H) := fun _ _ _ h => h.1
theorem vals_signs {x : Str} {acc : Array Value} (h : ItemsOf (SignAt x) acc x.cps.size) : Vals (Si2.sgs x) acc.toList := by
  refine vals_of_at ?_ fun j a u ha hu => ?_
  · rw [show acc.toList.length = x.cps.size from (Array.length_toList).trans h.1]
    simp [Si2.sgs]
  · obtain ⟨c, t, hc, rfl⟩ := h.2 j u (by rw [← hu, Array.getElem?_toList])
    unfold Si2.sgs at ha
    rw [List.getElem?_map, Array.getElem?_toList, hc] at ha
    cases ha
    exact ⟨t, rfl⟩
def rListS : List V → Hp → VK → Prop := fun xs H Q => ∃ x : Str, xs = [.str x] ∧ x.length ≤ sizeLine ∧ ∀ q, H q = none → Q (.ref q) (upd H q (.lst (Si2.sgs x)))
theorem call_listS {X : Cx} (hc : X.calm = true) : CallR X (.type "list") rListS := by
  intro pins s σ H xs us Q I r h
  obtain ⟨x, rfl, hl, q⟩ := h
  obtain ⟨u, rfl, ru⟩ := r.one
  obtain ⟨t, rfl⟩ := ru
  refine call_list_str (I.ok.hd hc) x t (fun h' tk acc c' hk e' hi => ?_) hl
  refine ⟨.ref s.heap.objs.size, upd H s.heap.objs.size (.lst (Si2.sgs x)), I.laid hk (Nat.le_refl _) (show ObjOk X.prog X.w _ _ _ (.lst (Si2.sgs x)) from ⟨?_, acc.toList, c', vals_signs hi, ?_⟩), rfl, q _ (I.hok.fresh (Nat.le_refl _))⟩
  · show (Si2.sgs x).length ≤ sizeLine
    unfold Si2.sgs
    rw [List.length_map, Array.length_toList]
    exact hl
  · rw [Array.toArray_toList]; exact e'
end St2

/-! x in a list or a tuple of data of any depth. -/
namespace Ind
open PySem PySem.Spec PyProof.Rows L2
def seqD (t : Bool) (ds : List PyData) : PyData := if t = true then .tuple ds else .list ds
def rInS (K : PySem.W.Frag) : R2 := fun x y H Q => ∃ (d : PyData) (ds : List PyData) (t : Bool), Dp K H x d ∧ Dp K H y (seqD t ds) ∧ d.canLay0 = true ∧ d.depth ≤ 60 ∧ PyData.canLayAll0 ds = true ∧ Q (.bl (ds.any fun z => PyData.eqv z d)) H
theorem op_inS {X : Cx} (hu : X.A.units + 65 < cLine) : OpR X (compareOp .In) (rInS X.K) := by
  intro pins s σ H x y v u Q I rx ry h
  obtain ⟨d, ds, t, hd, he, sd, dd, se, q⟩ := h
  obtain ⟨as, r1⟩ := Dp.reads I d x v hd rx
  have room : X.A.units + 1 + min (PyData.depthAll ds) d.depth < cLine := by
    have := Nat.min_le_right (PyData.depthAll ds) d.depth
    omega
  cases t with
  | true =>
    obtain ⟨bs, r2⟩ := Dp.reads I (.tuple ds) y u he ry
    exact SeqAt.in_tuple_reads r2 r1 se sd room ⟨.bl _, H, I, rfl, q⟩
  | false =>
    obtain ⟨bs, r2⟩ := Dp.reads I (.list ds) y u he ry
    exact SeqAt.in_list_reads r2 r1 se sd room ⟨.bl _, H, I, rfl, q⟩
theorem isD {K : PySem.W.Frag} {t : Bool} {H : Hp} {p : Addr} {xs : List V} {ds : List PyData} (h : Kd.Is K t H p xs) (g : DpAll K H xs ds) : Dp K H (.ref p) (seqD t ds) := by
  cases t with
  | true => exact .tup h g
  | false => exact .lst h g
theorem room65 {k : Nat} {A : Around} (r : Room k A) : A.units + 65 < cLine := by have := r.un; omega
end Ind
namespace Ind
open PySem PySem.Spec PyProof.Rows L2
def rNinS (K : PySem.W.Frag) : R2 := fun x y H Q => ∃ (d : PyData) (ds : List PyData) (t : Bool), Dp K H x d ∧ Dp K H y (seqD t ds) ∧ d.canLay0 = true ∧ d.depth ≤ 60 ∧ PyData.canLayAll0 ds = true ∧ Q (.bl (!ds.any fun z => PyData.eqv z d)) H
theorem op_ninS {X : Cx} (hu : X.A.units + 65 < cLine) : OpR X (compareOp .NotIn) (rNinS X.K) := by
  intro pins s σ H x y v u Q I rx ry h
  obtain ⟨d, ds, t, hd, he, sd, dd, se, q⟩ := h
  obtain ⟨as, r1⟩ := Dp.reads I d x v hd rx
  have room : X.A.units + 1 + min (PyData.depthAll ds) d.depth < cLine := by
    have := Nat.min_le_right (PyData.depthAll ds) d.depth
    omega
  cases t with
  | true =>
    obtain ⟨bs, r2⟩ := Dp.reads I (.tuple ds) y u he ry
    exact SeqAt.notIn_tuple_reads r2 r1 se sd room ⟨.bl _, H, I, rfl, q⟩
  | false =>
    obtain ⟨bs, r2⟩ := Dp.reads I (.list ds) y u he ry
    exact SeqAt.notIn_list_reads r2 r1 se sd room ⟨.bl _, H, I, rfl, q⟩
end Ind

/-! A method of an own class that may raise, called with values (the guide's way). -/
namespace MS
open PySem PySem.Spec PyProof.Rows L2
def tMethS (C : Addr) (m : Str) (sp : Sp) (E : L2.St → XK) (ta : TE) (t : TA) : TE := fun σ H Q => ta σ H fun x H1 => ∃ a dx fs, x = .ref a ∧ H1 a = some (.ins C dx fs) ∧ fs.lookup m = none ∧ t σ H1 fun vs H2 => sp (x :: vs) H2 Q (E σ)
theorem pe_methS {X : Cx} {CX : CXT} {k : Nat} {f C : Addr} {fd : FuncData} {ps : List Str} {sp : Sp} {E : L2.St → XK} {m : Str} {pos apos : Pos} {e o : Expr} {es : List Expr} {ta : TE} {t : TA} {pl : Sem Bool} (he : PE X o ta) (c : Cls X.K C) (hm : Meth X.K C m f)
    (F : FnOk X.prog X.w X.K X.mg X.base CX k f fd ps sp) (hr : Room k X.A) (hb : Binds X.K fd ps []) (hx : ∀ σ, PassesAt CX X σ (E σ)) (ha : PA X (e :: es) t)
    (hst : starEach (e :: es) X.env = (false, eval e X.env) :: starEach es X.env := by rfl) (hpl : (backTo pos (starEach es X.env)).any (·.1) = false := by rfl)
    (ht : eval (.Call (.Attribute o m apos) (e :: es) [] pos) X.env = (do
      let ov ← eval o X.env
      standAt apos.atName
      let (f, first) ← holding [ov] (getMethod ov m pl)
      callWith pos f first (backTo pos (starEach (e :: es) X.env)) (backToKw pos (keywordEach [] X.env))) := by rfl) :
    PE X (.Call (.Attribute o m apos) (e :: es) [] pos) (tMethS C m sp E ta t) := by
  refine ⟨fun pins s σ H Q I h => ?_⟩
  refine PySem.W.methodCall_KW (pl := pl) (thn (he.run pins s σ H _ I h) fun u s1 ⟨x, H1, I1, rx, a, dx, fs, ex, ea, l, q⟩ => ?_) ht
  subst ex
  obtain rfl : u = Value.ref a := rx
  refine getmeth_ok I1 ea c hm l ?_
  refine PySem.W.callWith_K (first := [.ref a]) (h₀ := X.base) I.ok.mod.kin hm.kp (thn (ha.run pos pins s1 σ H1 _ I1 q) fun us s2 ⟨vs, H2, I2, r, q2⟩ => ⟨I2.kIn, ?_⟩) hst hpl
  exact run_fnS (us := .ref a :: us) (vs := .ref a :: vs) F hr hb (hx σ) I2 (.cons rfl r) q2
end MS

/-! isinstance of a caught error with a dict of its own; == over data without dicts; text * int. -/
namespace Xe
open PySem PySem.Spec PyProof.Rows L2
/-- isinstance(e, c), e the error of the class at C that the suite holds, with its own dict -/
def rIsD (K : PySem.W.Frag) (C a : Addr) (cls : Value) (d : Option Addr) : List V → Hp → VK → Prop := fun xs H Q => ∃ (c : V) (cv : Value) (b : Bool) (dd : Addr) (fs : List (Str × V)), xs = [.ref a, c] ∧ cls = .ref C ∧ d = some dd ∧ H dd = some (.xd fs) ∧ (∀ u, RelV c u → u = cv) ∧
  PySem.W.kitOne K (.ref C) cv = some b ∧ Q (.bl b) H
theorem call_isD {X : Cx} {a C : Addr} {oe : Obj} {cls : Value} {d : Option Addr} {pn : List (Addr × Obj)} (EC : ExcC X.K C) (hcl : (PySem.W.clsIn X.K C).isSome = true) (hz : Zc cls d oe) (hf : ∃ vs, oe.data = .fields vs) : CallR (X.suite a ((a, oe) :: pn)) (.builtin "isinstance") (rIsD X.K C a cls d) := by
  intro pins s σ H xs us Q I r h
  obtain ⟨c, cv, b, dd, fs, rfl, ec, ed, hH, hcv, e, q⟩ := h
  subst ec ed
  cases r with
  | cons rx rr =>
    cases rr with
    | cons rt rr =>
      cases rr
      cases rx
      have ec := hcv _ rt
      subst ec
      obtain ⟨hget, _⟩ := I.pin (a, oe) (List.mem_append.mpr (.inl List.mem_cons_self))
      obtain ⟨vs, hd⟩ := hf
      have hx : ObjOk X.prog X.w H s.heap dd (.xd fs) := I.hok dd _ hH
      obtain ⟨mA, hns, hr⟩ := hx
      obtain ⟨od, ho, hl⟩ := lookIn_ns hns
      have J : PySem.W.InstAt s.heap a oe C (some od) := ⟨hget, hz.1, by unfold PySem.W.notCls; rw [hd] <;> rfl, by rw [hz.2]; exact ho⟩
      exact PySem.W.kia_one (PySem.W.kitx_exc hcl EC.hg EC.hk EC.hs EC.ha EC.hn EC.ht EC.hm) I.kIn J e (fun z => nomatch z) fun tk => ⟨.bl b, H, I.kept (t' := tk) fun _ _ z => z, rfl, q⟩
section
variable {X : Cx}
/-- None != None, (True, t) != (True, t): both answers the same -/
def rNe2 (K : PySem.W.Frag) : R2 := fun x y H Q => (x = .non ∧ y = .non ∧ Q (.bl false) H) ∨ ∃ p q t, x = .ref p ∧ y = .ref q ∧ SqT K H p [.bl true, .str t] ∧ SqT K H q [.bl true, .str t] ∧ Q (.bl false) H
theorem op_ne2 (hu : X.A.units + 64 < cLine) : OpR X (compareOp .NotEq) (rNe2 X.K) := by
  intro pins s σ H x y v u Q I rx ry h
  rcases h with ⟨rfl, rfl, q⟩ | ⟨p, q, t, rfl, rfl, hp, hq, h⟩
  · cases rx
    cases ry
    exact (PySem.SeqAt.RcNeAt.none_none (A := X.A) (s := s)) X.prog X.w X.xe _ ⟨.bl false, H, I, rfl, q⟩
  · cases rx
    cases ry
    obtain ⟨its, r1, p1, _⟩ := I.tuple hp
    obtain ⟨its2, r2, p2, _⟩ := I.tuple hq
    cases r1 with
    | cons a1 b1 =>
    cases b1 with
    | cons a2 b2 =>
    cases b2
    cases r2 with
    | cons c1 d1 =>
    cases d1 with
    | cons c2 d2 =>
    cases d2
    cases a1
    cases c1
    obtain ⟨k1, rfl⟩ := a2
    obtain ⟨k2, rfl⟩ := c2
    have e := PySem.SeqAt.RcNeAt.tuples (A := X.A) (s := s) (e := fun _ => true) p1 p2 (by omega) (fun j h1 h2 => by
      have hj : j = 0 ∨ j = 1 := by
        have : j < 2 := h1
        omega
      rcases hj with rfl | rfl
      · have := PySem.SeqAt.EqAt.bool_bool (A := X.A.in1) (s := s) true true
        simpa using this
      · have := PySem.SeqAt.EqAt.str_str (A := X.A.in1) (s := s) t k1 t k2
        simpa using this)
    exact e X.prog X.w X.xe _ ⟨.bl false, H, I, rfl, h⟩
/-- == of data without dicts -/
def rEqP (K : PySem.W.Frag) : R2 := fun x y H Q => ∃ d e, Dp K H x d ∧ Dp K H y e ∧ d.plain = true ∧ e.plain = true ∧ d.depth ≤ 60 ∧ Q (.bl (PyData.eqv d e)) H
theorem op_eqP (hu : X.A.units + 64 < cLine) : OpR X (compareOp .Eq) (rEqP X.K) := by
  intro pins s σ H x y v u Q I rx ry h
  obtain ⟨d, e, hd, he, sd, se, hz, q⟩ := h
  obtain ⟨as, r1⟩ := Dp.reads I d x v hd rx
  obtain ⟨bs, r2⟩ := Dp.reads I e y u he ry
  exact PySem.SeqAt.rcAt_plain r1 r2 sd se (by have : min d.depth e.depth ≤ d.depth := Nat.min_le_left _ _; omega) X.prog X.w X.xe _ ⟨.bl _, H, I, rfl, q⟩
/-- a sign times a number -/
def rMul1 : R2 := fun x y H Q => ∃ (c n : Nat), x = .str ⟨#[c]⟩ ∧ y = .int (n : Nat) ∧ 1 ≤ n ∧ n ≤ 1000 ∧ Q (.str ⟨(List.replicate n c).toArray⟩) H
theorem rep_fold (c : Nat) : ∀ (n : Nat) (acc : Array Nat), ((List.replicate n #[c]).foldl (· ++ ·) acc).toList = acc.toList ++ List.replicate n c
  | 0, acc => by simp
  | n + 1, acc => by
    rw [List.replicate_succ, List.foldl_cons, rep_fold c n, Array.toList_append, List.replicate_succ, List.append_assoc]
    rfl
theorem mul_one (c n : Nat) (h : 1 ≤ n) : Txt.mul ⟨#[c]⟩ ((n : Nat) : Int) = ⟨(List.replicate n c).toArray⟩ := by
  unfold Txt.mul
  rw [if_neg (by omega)]
  refine TL.ext_tl ?_
  show ((if _ then (⟨#[c]⟩ : Str) else _) : Str).cps.toList = List.replicate n c
  by_cases z : n = 1
  · subst z
    rfl
  · rw [if_neg (by
      intro q
      rcases Bool.or_eq_true_iff.mp q with q | q
      · have := eq_of_beq q
        omega
      · cases q)]
    rw [Int.toNat_natCast]
    show ((List.replicate n #[c]).foldl (· ++ ·) #[]).toList = _
    rw [rep_fold]
    rfl
theorem op_mul1 : OpR X (binaryOp .Mult) rMul1 := by
  intro pins s σ H x y v u Q I rx ry h
  obtain ⟨c, n, rfl, rfl, h1, h2, q⟩ := h
  obtain ⟨t, rfl⟩ := rx
  obtain ⟨t', rfl⟩ := ry
  refine PySem.SB.mul (x := ⟨#[c]⟩) (n := ((n : Nat) : Int)) ⟨?_, fun _ _ => ?_, fun _ _ => ?_⟩ fun t2 k => ?_
  · rw [decide_eq_false (by omega), decide_eq_false (by omega)]
    rfl
  · show ¬ ((1 : Nat) : Int) > (2 ^ 63 - 1) / ((n : Nat) : Int)
    have : (1 : Int) ≤ (2 ^ 63 - 1) / ((n : Nat) : Int) := Int.le_ediv_of_mul_le (by omega) (by omega)
    omega
  · show PySem.Builtin.Str.tooLong (1 * ((n : Nat) : Int).toNat) = false
    rw [Int.toNat_natCast, Nat.one_mul]
    have h3 : (1000 : Nat) ≤ sizeLine := by decide
    exact decide_eq_false (by omega)
  · rw [mul_one c n h1]
    exact ⟨.str _, H, I.tok _, ⟨_, rfl⟩, q⟩
end
end Xe

/-! try: .. except A as n: .. except B as m: .. (any number of clauses, each with its name). -/
namespace Ta
open PySem PySem.Spec PyProof.Rows L2
/-- one clause: the class that it names, the slot of its name, what its suite does -/
structure Hd where
  c : Value
  i : Nat
  ts : Addr → Value → Option Addr → TS
/-- behind a suite its name is gone -/
def Off (D : Ends) (i : Nat) : Ends where
  nx σ H := D.nx (σ.set i none) H
  rt := D.rt
  bk σ H := D.bk (σ.set i none) H
  ct σ H := D.ct (σ.set i none) H
/-- what the clauses ask of an exception that comes out of the body -/
def wish (K : PySem.W.Frag) (W : WX) (D : Ends) : List Hd → WX
  | [] => W
  | h :: r => fun cls d σ H => ∃ y, PySem.W.exmOne K cls h.c = some y ∧
      (y = true → ∀ a, H a = none → h.ts a cls d (Off D h.i) (σ.set h.i (some (.ref a))) H) ∧ (y = false → wish K W D r cls d σ H)
inductive Hds (X : Cx) : List ExceptHandler → List Hd → Prop
  | nil : Hds X [] []
  | cons {h : Hd} {x n : Str} {b₀ : Stmt} {rows : List Stmt} {p q : Pos} {hs : List ExceptHandler} {l : List Hd}
      (hi : X.N[h.i]? = some n) (hl : X.env.kindOf n = some .local) (hc : Names X x h.c)
      (hr : ∀ (a : Addr) (oe : Obj) (cls : Value) (d : Option Addr) (pn : List (Addr × Obj)), Zc cls d oe → (∃ vs, oe.data = .fields vs) →
        PSs (X.suite a ((a, oe) :: pn)) (b₀ :: rows) (h.ts a cls d))
      (t : Hds X hs l) : Hds X (.ExceptHandler (some (.Name x p)) (some n) (b₀ :: rows) q :: hs) (h :: l)
section
variable {X : Cx} {body : List Stmt} {hs : List ExceptHandler} {l : List Hd} {pos : Pos} {tb : WX → TS} {W : WX}
/-- how the body's own end is the whole one's -/
theorem calm_end {pins : List (Addr × Obj)} {D : Ends} {xe : Value → Shared → Prop} (ok : X.Ok) {f : Flow} {s : Shared} (h : SP (X.tr (X.pn ++ pins) xe) [] D f s) : SP X pins D f s := by
  cases f with
  | ret u =>
    obtain ⟨v, σ, H, J, r, q⟩ := h
    exact ⟨v, σ, H, J.ofTry ok, r, q⟩
  | next => obtain ⟨σ, H, J, q⟩ := h; exact ⟨σ, H, J.ofTry ok, q⟩
  | brk => obtain ⟨σ, H, J, q⟩ := h; exact ⟨σ, H, J.ofTry ok, q⟩
  | cont => obtain ⟨σ, H, J, q⟩ := h; exact ⟨σ, H, J.ofTry ok, q⟩
/-- an exception has landed at a: the clauses are asked one behind the other -/
theorem asked {pins : List (Addr × Obj)} {D : Ends} {a : Addr} {B h3 : Heap} {sI s' : Shared} {σ : L2.St} {H : Hp} {cls : Value} {d : Option Addr} (stk : X.stack = X.env :: X.outer) (fr : X.env.frame = some X.env.locals) (nd : X.N.Nodup) (tk : Takes X W)
    (J : Inv X pins σ H sI) (nb : ∀ b o, sI.heap.get? b = some o → b ∉ frs X.stack → B.get? b = some o) (up : sI.heap.UpToSlots s'.heap) (up3 : s'.heap.UpToSlots h3) (na : H a = none) (os : s'.os = sI.os) (ag : AllBare s'.gens)
    (fl : HandSPX.FlyingZ B (X.env :: X.outer) a (Zc cls d) h3) : ∀ {hs : List ExceptHandler} {l : List Hd}, Hds X hs l → wish X.K W D l cls d σ H →
    wpAny (model X.prog X.w) X.A (handleBy (.ref a) X.env hs) (SP X pins D) X.xe { s' with heap := h3 } := by
  have free : ∀ {g : Heap} {o : Obj} {vs : Array Value}, HandSPX.FlyingZ B (X.env :: X.outer) a (Zc cls d) g → g.get? a = some o → o.data = .fields vs → a ≠ X.env.locals ∧ a ∉ X.fs := by
    intro g o vs fg eo ed
    have out : a ∉ frs (X.env :: X.outer) := by
      intro m
      obtain ⟨_, o2, e2, no⟩ := fg.2.2.1.mem m
      cases eo.symm.trans e2
      exact no _ ed
    constructor
    · intro z
      exact out (List.mem_filterMap.mpr ⟨X.env, by simp, by rw [fr, z]⟩)
    · intro m
      obtain ⟨e, me, q⟩ := List.mem_filterMap.mp m
      exact out (List.mem_filterMap.mpr ⟨e, by simp [me], q⟩)
  intro hs l hk
  induction hk with
  | nil =>
    intro hW
    obtain ⟨_, _, _, oe, vs, _, _, _, eo, _, ed, e1, _⟩ := id fl
    refine wpAny_handleBy_nil ?_
    have out : wpAny (model X.prog X.w) X.A (setFlight (.ref a) X.env.frame) (fun _ t => wpAny (model X.prog X.w) X.A (throw (.ref a) : Sem Flow) (SP X pins D) X.xe t) X.xe { s' with heap := h3 } := by
      rw [fr]
      refine HandSPX.setFlight_upZ fl fun g hg ug => ?_
      have sky : Sky B X.stack a (Zc cls d) X.env.locals g := by
        rw [stk]
        exact .inr (.inr hg)
      exact wpAny_throw (tk _ _ ⟨a, B, sI, pins, σ, H, cls, d, rfl, J, nb, (up.trans up3).trans ug, sky, na, os, ag, hW⟩)
    unfold PySem.passOn
    refine wpAny_bind (wpAny_field eo ed e1 ?_)
    rw [if_neg (by simp)]
    first
      | exact wpAny_bind out
      | exact wpAny_bind (wpAny_pure (wpAny_bind out))
  | @cons h x n b₀ rows p q hs l hi hl hc hr t ih =>
    rintro ⟨y, ey, yes, no⟩
    obtain ⟨oe, vs, eo, ez, ed⟩ := fl.there
    obtain ⟨n1, n2⟩ := free fl eo ed
    have J3 := J.landed nb fl.1 (s' := { s' with heap := h3 }) (up.trans up3) os ag
    have S3 := J3.suite eo ed na n1 n2
    have kind : PySem.W.Looks (model X.prog X.w) h3 (typeOf (.ref a)) cls := by
      intro A Q E z k q
      refine wpAny_typeOf_ref (k _ _ eo) ?_
      rw [ez.1]
      exact q
    have one := PySem.W.exm_one (M := model X.prog X.w) J3.kIn kind ey
    refine wpAny_handleBy_cons (codeAny_handlers_test ?_) (by intro z; cases z)
    have name : ∀ {Q E : Value → Shared → Prop}, Q h.c { s' with heap := h3 } → wpAny (model X.prog X.w) (X.A.mark (some (.ref a))) (eval (.Name x p) X.env) Q E { s' with heap := h3 } := by
      intro Q E qq
      rcases hc with ⟨g1, g2, g3 | ⟨g3, g4, g5⟩⟩
      · exact ld_glob (X := X.suite a ((a, oe) :: (X.pn ++ pins))) S3 g1 g3 qq g2
      · exact ld_blt (X := X.suite a ((a, oe) :: (X.pn ++ pins))) S3 g1 g3 g4 qq g5 g2
    refine name (one.here ?_)
    cases y with
    | false => exact ih (no rfl)
    | true =>
      refine codeAny_handlers_suite_as ?_
      refine HandSPX.lands_againZ fl fun g fg ug => ?_
      obtain ⟨oe2, vs2, eo2, ez2, ed2⟩ := fg.there
      obtain ⟨m1, m2⟩ := free fg eo2 ed2
      have J4 := J.landed nb fg.1 (s' := { s' with heap := g }) ((up.trans up3).trans ug) os ag
      refine store_ok (X := X.suite a ((a, oe2) :: (X.pn ++ pins))) (v := .ref a) (J4.suite eo2 ed2 na m1 m2) nd hi (.inl hl) rfl (fun s5 S5 => ?_) (.inr hl)
      have body := (hr a oe2 cls d (X.pn ++ pins) ez2 ⟨_, ed2⟩).run [] s5 _ H _ S5 (yes rfl a na)
      refine wpAny_mono body (fun f s6 end6 => ?_) fun _ _ z => z.elim
      have ok := J.ok
      cases f with
      | ret u =>
        obtain ⟨v6, σ6, H6, S6, r6, q6⟩ := end6
        exact gone_ok (S6.unsuite ok) nd hi hl fun s7 J7 => ⟨_, _, _, J7, r6, q6⟩
      | next =>
        obtain ⟨σ6, H6, S6, q6⟩ := end6
        exact gone_ok (S6.unsuite ok) nd hi hl fun s7 J7 => ⟨_, _, J7, q6⟩
      | brk =>
        obtain ⟨σ6, H6, S6, q6⟩ := end6
        exact gone_ok (S6.unsuite ok) nd hi hl fun s7 J7 => ⟨_, _, J7, q6⟩
      | cont =>
        obtain ⟨σ6, H6, S6, q6⟩ := end6
        exact gone_ok (S6.unsuite ok) nd hi hl fun s7 J7 => ⟨_, _, J7, q6⟩
theorem ps_try_ass {h₀ : ExceptHandler} {h1 : Hd} (stk : X.stack = X.env :: X.outer) (fr : X.env.frame = some X.env.locals) (nd : X.N.Nodup) (tk : Takes X W)
    (hb : ∀ (U : WX) (pn : List (Addr × Obj)) (xe : Value → Shared → Prop), Takes (X.tr pn xe) U → PassesOwn (model X.prog X.w) X.A X.env xe → PSs (X.tr pn xe) body (tb U))
    (hh : Hds X (h₀ :: hs) (h1 :: l)) : PS X (.Try body (h₀ :: hs) [] [] pos) (fun D σ H => tb (wish X.K W D (h1 :: l)) D σ H) := by
  constructor
  intro pins s σ H D I go
  have ok := I.ok
  refine wpAny_Try_except ?_
  have run := (hb (wish X.K W D (h1 :: l)) (X.pn ++ pins) (fun e t1 => wpAny (model X.prog X.w) X.A (noteFrame e X.env) (fun _ t2 =>
    wpAny (model X.prog X.w) X.A (setFlight e none) (fun _ t3 => wpAny (model X.prog X.w) X.A (handleBy e X.env (h₀ :: hs)) (SP X pins D) X.xe t3) X.xe t2) X.xe t1) ?_ PassesOwn.looking).run [] s σ H D (I.toTry _) go
  · refine wpAny_mono run (fun f s1 e1 => ?_) fun _ _ z => z
    have e2 := calm_end ok e1
    cases f with
    | next => exact wpAny_execs_nil e2
    | ret u => exact e2
    | brk => exact e2
    | cont => exact e2
  · intro u s' xx
    obtain ⟨a, B, sI, pins2, σ', H', cls, d, rfl, J', nb, up, sky, na, os, ag, hw⟩ := xx
    have sky2 : Sky B (X.env :: X.outer) a (Zc cls d) X.env.locals s'.heap := by
      rw [← stk]
      exact sky
    show wpAny (model X.prog X.w) X.A (noteFrame (.ref a) X.env) _ _ _
    exact Sky.land Zc.steady (by rw [ok.frames, stk]) fr sky2 fun h3 fl up3 => asked stk fr nd tk (J'.ofTry ok) nb up up3 na os ag fl hh hw
end
end Ta

/-! An own error with one field, BadRing, as the guide's skeleton on own errors gives it. -/
namespace PySem
namespace LowR
open PySem.W PySem.Calls PyProof.Rows PySem.HandSPX
/-! ### the text of __init__ -/
def iA (p1 p2 : Pos) : Arguments := { posonlyargs := [], args := [{ arg := "self", annotation := none, pos := p1 }, { arg := "text", annotation := none, pos := p2 }], vararg := none, kwonlyargs := [], kw_defaults := [], kwarg := none, defaults := [] }
def iB (q1 q2 q3 q4 : Pos) : List Stmt := [.Assign [.Attribute (.Name "self" q1) "text" q2] (.Name "text" q3) q4]
def iS : Scope := { kind := .function, names := [(PySem.Str.ofString "self", .local), (PySem.Str.ofString "text", .local)], isGenerator := false, isCoroutine := false, more := [] }
/-- what the written part says of Low, at C, and of its __init__, at fI -/
structure LowTxt (K : Frag) (mg : Str → Option Value) (C fI : Addr) : Prop where
  gC : mg "BadRing" = some (.ref C)
  cls : ∃ nm q N bs bm sn sub ab col dd k0 k1 k2 k3 k5, K.lookup C = some (excClassObj nm q C N bs bm true sn sub ab col dd k0 k1 k2 k3 k5 "ValueError.__new__") ∧ refsVE bm = true
  sa : findIn K (.ref C) "__setattr__" = some (some (.builtin "object.__setattr__"))
  ga : findIn K (.ref C) "__getattribute__" = some (some (.builtin "BaseException.__getattribute__"))
  gg : findIn K (.ref C) "__getattr__" = some none
  noN : findIn K (.ref C) "text" = some none
  iC : findIn K (.ref C) "__init__" = some (some (.ref fI))
  tC : typeIn K (.ref fI) = some (.type "function")
  kC : keepIn K (.ref C) = true
  exC : subIn K (.ref C) (.type "BaseException") = some true
  tyC : typeIn K (.ref C) = some (.type "type")
  hdC : hasDictIn K C = true
  te : exmOne K (.ref C) (.ref C) = some true
  fn : ∃ (oc : Value) (od : Option Addr) (doc pm : Value) (an : Option Addr) (cdv ct : Value) (osl : Array (Option Value)) (p1 p2 q1 q2 q3 q4 : Pos),
    K.lookup fI = some ⟨oc, od, .func (fnOf "__init__" "BadRing.__init__" (iA p1 p2) (iB q1 q2 q3 q4) iS .none .none doc pm an cdv ct), osl⟩ ∧ codeIn K cdv "BadRing.__init__" = true
theorem one_size (v : Value) : [v].length ≤ sizeLine := by
  rw [sizeLine_eq]
  exact (by decide : 1 ≤ 16777216)
theorem kept_but {K : Frag} {h h' : Heap} {x : Addr} (X : K.In h) (hx : K.lookup x = none) (k : ∀ b o, b ≠ x → h.get? b = some o → h'.get? b = some o) : K.In h' := fun a o e =>
  k a o (fun z => by rw [z, hx] at e; cases e) (X a o e)
theorem ldC {M : Model} {s : Shared} {name : Str} {scope : Scope} {L a : Addr} {cd : Value} {m : Str → Option Value} {x : Str} {pos : Pos} {v : Value} {Q : Value → Shared → Prop} {A : Around} {E : Value → Shared → Prop} (hn : s.heap.Ns L m) (hv : m x = some v) (h : Q v s)
    (hk : scope.kind = .function := by rfl) (hl : (envOfC name scope L a cd).kindOf x = some .local := by rfl) (hd : (x == ("__debug__" : Str)) = false := by decide) :
    wpAny M A (eval (.Name x pos) (envOfC name scope L a cd)) Q E s := wpAny_Name (wpAny_loadName_local hk hl hn hv h) hd
/-- what __init__ leaves of a fresh exception at x -/
structure InitEnd (h h' : Heap) (x C dx t1 : Addr) (v : Value) : Prop where
  keep : ∀ b o, b ≠ x → h.get? b = some o → h'.get? b = some o
  obj : h'.get? x = some { cls := .ref C, dict := some dx, data := .fields #[.ref t1, .none, .none, .none, .bool false, .none] }
  dbig : h.objs.size ≤ dx
  dne : dx ≠ x
  ns : h'.Ns1 dx (fun y => if y = "text" then some v else none)
/-- a made Low -/
structure OwnMade (h h' : Heap) (e C d : Addr) (v : Value) : Prop where
  keep : ∀ b o, h.get? b = some o → h'.get? b = some o
  new : h.objs.size ≤ e
  obj : ∃ oe vs, h'.get? e = some oe ∧ oe.cls = .ref C ∧ oe.dict = some d ∧ oe.data = .fields vs ∧ vs[1]? = some .none
  dbig : h.objs.size ≤ d
  dne : d ≠ e
  ns : h'.Ns1 d (fun y => if y = "text" then some v else none)
section
variable {prog : Program} {w : World} {A : Around} {E : Value → Shared → Prop} {R : Result → Shared → Prop} {s : Shared} {K : Frag} {mg : Str → Option Value} {C fI : Addr}
theorem low_init (T : LowTxt K mg C fI) {x t0 : Addr} {v : Value} (X : K.In s.heap) (hlim : s.heap.NoLimit) (hx : s.heap.get? x = some (excO C t0)) (hnx : K.lookup x = none) (hroom : A.depth < recursionLimit)
    (hq : ∀ h' tk dx, InitEnd s.heap h' x C dx t0 v → R (.ok (.ret .none)) { s with heap := h', toks := tk }) :
    codeAny (model prog w) A (.call (.ref fI) ⟨[.ref x, v], []⟩) R s := by
  obtain ⟨oc, od, doc, pm, an, cdv, ct, osl, p1, p2, q1, q2, q3, q4, ho, hcd⟩ := T.fn
  obtain ⟨nm, q, N, bs, bm, sn, sub, ab, col, dd, k0, k1, k2, k3, k5, hC, hbm⟩ := T.cls
  have hcl : clsIn K C = some { name := nm, bases := bs, mro := .ref C :: bm, ns := N, qualname := q, hasDict := true, slotNames := sn, subclasses := sub, abstract := ab, collection := col, hasDel := false } := by unfold clsIn; rw [hC] <;> rfl
  refine Att.call_fn (binds := [("self", .ref x), ("text", v)]) X hlim ho hcd hroom (BindsTo.of_eq (by first | rfl | with_unfolding_all rfl)) (by first | rfl | decide | with_unfolding_all rfl) (fun s₁ IC => ?_) rfl rfl rfl
  obtain ⟨h₁, tk₁, rfl⟩ := IC.toInCall.same
  have k : ∀ b o, s.heap.get? b = some o → h₁.get? b = some o := IC.toInCall.keep
  have hn := IC.toInCall.ns
  have hxL : s.heap.objs.size ≠ x := Nat.ne_of_gt (Heap.lt_size hx)
  have X₁ : K.In h₁ := X.keeps k
  have hx₁ := k _ _ hx
  -- self.by = by
  show wpAny _ _ (execs _ _) _ _ _
  refine wpAny_execs_cons (plainObj_wpAny_Assign_Attribute ?_)
  refine ldC (v := v) hn (by first | rfl | with_unfolding_all rfl | kernel_rfl) (ldC (v := .ref x) hn (by first | rfl | with_unfolding_all rfl | kernel_rfl) ?_)
  refine set_plain X₁ (ox := excO C t0) (od := none) ⟨hx₁, rfl, rfl, trivial⟩ T.sa ?_
  refine exc_osa X₁ hx₁ hcl (show refsVE (.ref C :: bm) = true from hbm) rfl T.noN (fun h₃ tk₃ dx k₃ dn dne hx₃ hn₃ => ?_)
  show wpAny _ _ (execs _ _) _ _ _
  have z : s.heap.objs.size < h₁.objs.size := hn.lt
  exact wpAny_execs_nil (hq h₃ tk₃ dx ⟨fun b o hb e => k₃ b o hb (k b o e), hx₃, Nat.le_of_lt (Nat.lt_of_lt_of_le z dn), dne, hn₃⟩)
theorem low_made (T : LowTxt K mg C fI) {v : Value} (X : K.In s.heap) (hlim : s.heap.NoLimit) (hroom : A.depth + 1 < recursionLimit)
    (hq : ∀ h' tk e d, OwnMade s.heap h' e C d v → R (.ok (.ret (.ref e))) { s with heap := h', toks := tk }) :
    codeAny (model prog w) A (.call (.ref C) ⟨[v], []⟩) R s := by
  obtain ⟨nm, q, N, bs, bm, sn, sub, ab, col, dd, k0, k1, k2, k3, k5, hC, hbm⟩ := T.cls
  obtain ⟨hp, g, dr, tk, os⟩ := s
  have k : ∀ b o, hp.get? b = some o → ((hp.push (kdv_tup [v])).push (excO C hp.objs.size)).get? b = some o := fun b o e => Heap.get?_push_of_some _ (Heap.get?_push_of_some _ e)
  have hget : ((hp.push (kdv_tup [v])).push (excO C hp.objs.size)).get? (hp.objs.size + 1) = some (excO C hp.objs.size) := by heap_get
  have hnx : K.lookup (hp.objs.size + 1) = none := by
    cases e : K.lookup (hp.objs.size + 1) with
    | none => rfl
    | some o =>
      have z : hp.get? (hp.objs.size + 1) = some o := X _ _ e
      exact absurd (Nat.lt_of_succ_lt (Heap.lt_size z)) (Nat.lt_irrefl _)
  refine call_own F.excBase_ValueError (fun X => refsVE_contains X bm hbm) (X _ _ hC) (looks_findIn X T.iC) (fun self => bind_fn X self T.tC) (one_size v) ?_
  refine low_init (s := ⟨(hp.push (kdv_tup [v])).push (excO C hp.objs.size), g, dr, tk, os⟩) T (X.keeps k) (hlim.keeps k) hget hnx ?_ fun h' tk' dx ⟨k', hx, dn, dne, hns⟩ => ?_
  · show A.depth + 1 < recursionLimit
    exact hroom
  · have old : ∀ b o, hp.get? b = some o → h'.get? b = some o := fun b o e => k' b o (Nat.ne_of_lt (Nat.lt_succ_of_lt (Heap.lt_size e))) (k b o e)
    have z : hp.objs.size + 1 + 1 ≤ dx := by
      first
        | (simpa only [Heap.size_push] using dn)
        | exact dn
        | (have q := dn; rw [Heap.size_push, Heap.size_push] at q; exact q)
    exact ⟨rfl, hq h' tk' (hp.objs.size + 1) dx ⟨old, Nat.le_succ _, ⟨_, _, hx, rfl, rfl, rfl, rfl⟩, Nat.le_trans (Nat.le_trans (Nat.le_succ _) (Nat.le_succ _)) z, dne, hns⟩⟩
end
end LowR
end PySem
namespace L2
open PySem PySem.Spec PyProof.Rows
theorem relO_lowR {v : V} {v' : Value} (r : RelV v v') (f : Str) : RelO (List.lookup f [(("text" : Str), v)]) (if f = "text" then some v' else none) := by
  by_cases hw : f = "text"
  · subst hw
    rw [if_pos rfl]
    have q : List.lookup ("text" : Str) [(("text" : Str), v)] = some v := by simp [List.lookup]
    rw [q]
    exact r
  · rw [if_neg hw]
    have qw : (f == ("text" : Str)) = false := by simpa using hw
    have q2 : List.lookup f [(("text" : Str), v)] = none := by simp [List.lookup, qw]
    rw [q2]
    trivial
section
variable {X : Cx} {C fI : Addr}
/-- Low(e) -/
def tMkLowR (C : Addr) (ta : TA) : St → Hp → XK → Prop := fun σ H Q => ta σ H fun vs H1 => ∃ v, vs = [v] ∧ ∀ d, H1 d = none → Q (.ref C) (some d) (upd H1 d (.xd [(("text" : Str), v)]))
theorem pmk_lowR {a : Expr} {ta : TA} {p pos : Pos} {k : Nat} (T : PySem.LowR.LowTxt X.K X.mg C fI) (hr : Room k X.A) (ha : PA X [a] ta) (hg : Gl X "BadRing" := by rfl)
    (he : starEach (a :: []) X.env = (false, eval a X.env) :: starEach [] X.env := by rfl) (hpl : (backTo pos (starEach [] X.env)).any (·.1) = false := by rfl) :
    PMk X (.Call (.Name "BadRing" p) [a] [] pos) (tMkLowR C ta) := by
  intro pins s σ H Q I h
  refine wpAny_Call_Name_kw (ld_glob I hg T.gC ?_)
  refine PySem.W.callWith_K (h₀ := X.base) I.ok.mod.kin T.kC (thn (ha.run pos pins s σ H _ I h) fun us s1 hh => ?_) he hpl
  obtain ⟨vs, H1, I1, r1, v, ev, q1⟩ := hh
  subst ev
  refine ⟨I1.kIn, ?_⟩
  cases r1 with
  | cons rv rn =>
    rename_i v' us'
    cases rn
    show wpAny _ _ (call (.ref C) [v']) _ _ _
    have hlim := I1.nolimit
    obtain ⟨hp, g, dr, tk, os⟩ := s1
    refine wpAny_call (PySem.LowR.low_made T I1.kIn hlim (by have := hr.dp; omega) fun h' tk' e d M => ?_)
    show MkP X pins σ Q (.ref e) ⟨h', g, dr, tk', os⟩
    obtain ⟨oe, fv, hoe, hc, hd, hdat, h1⟩ := M.obj
    have hns := M.ns
    obtain ⟨G', g1, g2⟩ := restrict h' fun b => decide (b ≠ e)
    have gk : ∀ b, b ≠ e → G'.get? b = h'.get? b := fun b hb => g1 b (decide_eq_true hb)
    have ge : G'.get? e = none := g2 e (by simp)
    have old : ∀ b o, hp.get? b = some o → G'.get? b = some o := fun b o q => (gk b (Nat.ne_of_lt (Nat.lt_of_lt_of_le (Heap.lt_size q) M.new))).trans (M.keep b o q)
    have ob : ObjOk X.prog X.w (upd H1 d (.xd [(("text" : Str), v)])) G' d (.xd [(("text" : Str), v)]) :=
      ⟨_, hns.at (fun o q => (gk d M.dne).trans q), fun f => relO_lowR rv f⟩
    have J : Inv X pins σ (upd H1 d (.xd [(("text" : Str), v)])) ⟨G', g, dr, tk', os⟩ := I1.laid (t' := tk') old M.dbig ob
    refine ⟨e, oe, fv, ⟨G', g, dr, tk', os⟩, _, .ref C, some d, rfl, J, fun b o q => ?_, ge, hoe, ⟨hc, hd⟩, hdat, h1, ?_, rfl, I1.bare, raises_own T.exC T.tyC, q1 d (I1.hok.fresh M.dbig)⟩
    · by_cases hb : b = e
      · have q' : G'.get? b = some o := q
        rw [hb, ge] at q'; cases q'
      · exact (gk b hb).symm.trans q
    · rw [upd_ne (Ne.symm M.dne)]
      exact I1.hok.fresh M.new
/-- raise Low(e) -/
def tRaiseLowR (C : Addr) (W : WX) (ta : TA) : TS := fun _ σ H => tMkLowR C ta σ H fun cls d H' => W cls d σ H'
theorem ps_raiseLowR {a : Expr} {ta : TA} {W : WX} {p pos pos2 : Pos} {k : Nat} (hc : X.calm = true) (T : PySem.LowR.LowTxt X.K X.mg C fI) (hr : Room k X.A) (tk : Takes X W) (ha : PA X [a] ta) (hg : Gl X "BadRing" := by rfl)
    (he : starEach (a :: []) X.env = (false, eval a X.env) :: starEach [] X.env := by rfl) (hpl : (backTo pos (starEach [] X.env)).any (·.1) = false := by rfl) :
    PS X (.Raise (some (.Call (.Name "BadRing" p) [a] [] pos)) none pos2) (tRaiseLowR C W ta) := ps_raise hc tk (pmk_lowR T hr ha hg he hpl)
/-- low.by, low the exception that the suite holds (at a; its class cls, its dict d) -/
def tByLowR (C : Addr) (a : Addr) (cls : Value) (d : Option Addr) (te : TE) : TE := fun σ H Q => te σ H fun x H1 => x = .ref a ∧ cls = .ref C ∧ ∃ (dd : Addr) (v : V), d = some dd ∧ H1 dd = some (.xd [(("text" : Str), v)]) ∧ Q v H1
theorem pe_byLowR {a : Addr} {oe : Obj} {cls : Value} {d : Option Addr} {pn : List (Addr × Obj)} {e : Expr} {te : TE} {pos : Pos} (T : PySem.LowR.LowTxt X.K X.mg C fI) (hz : Zc cls d oe) (hf : ∃ vs, oe.data = .fields vs) (he : PE (X.suite a ((a, oe) :: pn)) e te)
    (hb : attributeBase e "text" X.env (eval e X.env) = eval e X.env := by rfl) :
    PE (X.suite a ((a, oe) :: pn)) (.Attribute e "text" pos) (tByLowR C a cls d te) := by
  refine ⟨fun pins s σ H Q I h => ?_⟩
  refine attr_of hb (thn (he.run pins s σ H _ I h) fun u s1 hh => ?_)
  obtain ⟨x, H1, I1, rx, ex, ec, dd, v, ed, ea, q⟩ := hh
  subst ex
  obtain rfl : u = Value.ref a := rx
  subst ec
  subst ed
  obtain ⟨ha, _⟩ := I1.pin (a, oe) (List.mem_append_left _ List.mem_cons_self)
  obtain ⟨vs, hd⟩ := hf
  have hx : ObjOk X.prog X.w H1 s1.heap dd (.xd [(("text" : Str), v)]) := I1.hok dd _ ea
  obtain ⟨mA, hns, hr⟩ := hx
  obtain ⟨od, ho, hl⟩ := lookIn_ns hns
  have l : List.lookup ("text" : Str) [(("text" : Str), v)] = some v := by simp [List.lookup]
  obtain ⟨u, hu, ru⟩ := RelO.some_of (v := v) (o := mA "text") (by rw [← l]; exact hr "text")
  have J : PySem.W.InstAt s1.heap a oe C (some od) := ⟨ha, hz.1, by unfold PySem.W.notCls; rw [hd] <;> rfl, by rw [hz.2]; exact ho⟩
  exact HandSPX.exc_get I1.kIn J T.ga T.gg T.exC (PySem.W.findObj_own T.hdC T.noN rfl (by rw [hl, hu])) (handed_of ru) ⟨v, H1, I1.tok _, ru, q⟩
end
end L2


/-! An own error with one field, BadFault, as the guide's skeleton on own errors gives it. -/
namespace PySem
namespace LowF
open PySem.W PySem.Calls PyProof.Rows PySem.HandSPX
/-! ### the text of __init__ -/
def iA (p1 p2 : Pos) : Arguments := { posonlyargs := [], args := [{ arg := "self", annotation := none, pos := p1 }, { arg := "fault", annotation := none, pos := p2 }], vararg := none, kwonlyargs := [], kw_defaults := [], kwarg := none, defaults := [] }
def iB (q1 q2 q3 q4 : Pos) : List Stmt := [.Assign [.Attribute (.Name "self" q1) "fault" q2] (.Name "fault" q3) q4]
def iS : Scope := { kind := .function, names := [(PySem.Str.ofString "self", .local), (PySem.Str.ofString "fault", .local)], isGenerator := false, isCoroutine := false, more := [] }
/-- what the written part says of Low, at C, and of its __init__, at fI -/
structure LowTxt (K : Frag) (mg : Str → Option Value) (C fI : Addr) : Prop where
  gC : mg "BadFault" = some (.ref C)
  cls : ∃ nm q N bs bm sn sub ab col dd k0 k1 k2 k3 k5, K.lookup C = some (excClassObj nm q C N bs bm true sn sub ab col dd k0 k1 k2 k3 k5 "ValueError.__new__") ∧ refsVE bm = true
  sa : findIn K (.ref C) "__setattr__" = some (some (.builtin "object.__setattr__"))
  ga : findIn K (.ref C) "__getattribute__" = some (some (.builtin "BaseException.__getattribute__"))
  gg : findIn K (.ref C) "__getattr__" = some none
  noN : findIn K (.ref C) "fault" = some none
  iC : findIn K (.ref C) "__init__" = some (some (.ref fI))
  tC : typeIn K (.ref fI) = some (.type "function")
  kC : keepIn K (.ref C) = true
  exC : subIn K (.ref C) (.type "BaseException") = some true
  tyC : typeIn K (.ref C) = some (.type "type")
  hdC : hasDictIn K C = true
  te : exmOne K (.ref C) (.ref C) = some true
  fn : ∃ (oc : Value) (od : Option Addr) (doc pm : Value) (an : Option Addr) (cdv ct : Value) (osl : Array (Option Value)) (p1 p2 q1 q2 q3 q4 : Pos),
    K.lookup fI = some ⟨oc, od, .func (fnOf "__init__" "BadFault.__init__" (iA p1 p2) (iB q1 q2 q3 q4) iS .none .none doc pm an cdv ct), osl⟩ ∧ codeIn K cdv "BadFault.__init__" = true
theorem one_size (v : Value) : [v].length ≤ sizeLine := by
  rw [sizeLine_eq]
  exact (by decide : 1 ≤ 16777216)
theorem kept_but {K : Frag} {h h' : Heap} {x : Addr} (X : K.In h) (hx : K.lookup x = none) (k : ∀ b o, b ≠ x → h.get? b = some o → h'.get? b = some o) : K.In h' := fun a o e =>
  k a o (fun z => by rw [z, hx] at e; cases e) (X a o e)
theorem ldC {M : Model} {s : Shared} {name : Str} {scope : Scope} {L a : Addr} {cd : Value} {m : Str → Option Value} {x : Str} {pos : Pos} {v : Value} {Q : Value → Shared → Prop} {A : Around} {E : Value → Shared → Prop} (hn : s.heap.Ns L m) (hv : m x = some v) (h : Q v s)
    (hk : scope.kind = .function := by rfl) (hl : (envOfC name scope L a cd).kindOf x = some .local := by rfl) (hd : (x == ("__debug__" : Str)) = false := by decide) :
    wpAny M A (eval (.Name x pos) (envOfC name scope L a cd)) Q E s := wpAny_Name (wpAny_loadName_local hk hl hn hv h) hd
/-- what __init__ leaves of a fresh exception at x -/
structure InitEnd (h h' : Heap) (x C dx t1 : Addr) (v : Value) : Prop where
  keep : ∀ b o, b ≠ x → h.get? b = some o → h'.get? b = some o
  obj : h'.get? x = some { cls := .ref C, dict := some dx, data := .fields #[.ref t1, .none, .none, .none, .bool false, .none] }
  dbig : h.objs.size ≤ dx
  dne : dx ≠ x
  ns : h'.Ns1 dx (fun y => if y = "fault" then some v else none)
/-- a made Low -/
structure OwnMade (h h' : Heap) (e C d : Addr) (v : Value) : Prop where
  keep : ∀ b o, h.get? b = some o → h'.get? b = some o
  new : h.objs.size ≤ e
  obj : ∃ oe vs, h'.get? e = some oe ∧ oe.cls = .ref C ∧ oe.dict = some d ∧ oe.data = .fields vs ∧ vs[1]? = some .none
  dbig : h.objs.size ≤ d
  dne : d ≠ e
  ns : h'.Ns1 d (fun y => if y = "fault" then some v else none)
section
variable {prog : Program} {w : World} {A : Around} {E : Value → Shared → Prop} {R : Result → Shared → Prop} {s : Shared} {K : Frag} {mg : Str → Option Value} {C fI : Addr}
theorem low_init (T : LowTxt K mg C fI) {x t0 : Addr} {v : Value} (X : K.In s.heap) (hlim : s.heap.NoLimit) (hx : s.heap.get? x = some (excO C t0)) (hnx : K.lookup x = none) (hroom : A.depth < recursionLimit)
    (hq : ∀ h' tk dx, InitEnd s.heap h' x C dx t0 v → R (.ok (.ret .none)) { s with heap := h', toks := tk }) :
    codeAny (model prog w) A (.call (.ref fI) ⟨[.ref x, v], []⟩) R s := by
  obtain ⟨oc, od, doc, pm, an, cdv, ct, osl, p1, p2, q1, q2, q3, q4, ho, hcd⟩ := T.fn
  obtain ⟨nm, q, N, bs, bm, sn, sub, ab, col, dd, k0, k1, k2, k3, k5, hC, hbm⟩ := T.cls
  have hcl : clsIn K C = some { name := nm, bases := bs, mro := .ref C :: bm, ns := N, qualname := q, hasDict := true, slotNames := sn, subclasses := sub, abstract := ab, collection := col, hasDel := false } := by unfold clsIn; rw [hC] <;> rfl
  refine Att.call_fn (binds := [("self", .ref x), ("fault", v)]) X hlim ho hcd hroom (BindsTo.of_eq (by first | rfl | with_unfolding_all rfl)) (by first | rfl | decide | with_unfolding_all rfl) (fun s₁ IC => ?_) rfl rfl rfl
  obtain ⟨h₁, tk₁, rfl⟩ := IC.toInCall.same
  have k : ∀ b o, s.heap.get? b = some o → h₁.get? b = some o := IC.toInCall.keep
  have hn := IC.toInCall.ns
  have hxL : s.heap.objs.size ≠ x := Nat.ne_of_gt (Heap.lt_size hx)
  have X₁ : K.In h₁ := X.keeps k
  have hx₁ := k _ _ hx
  -- self.by = by
  show wpAny _ _ (execs _ _) _ _ _
  refine wpAny_execs_cons (plainObj_wpAny_Assign_Attribute ?_)
  refine ldC (v := v) hn (by first | rfl | with_unfolding_all rfl | kernel_rfl) (ldC (v := .ref x) hn (by first | rfl | with_unfolding_all rfl | kernel_rfl) ?_)
  refine set_plain X₁ (ox := excO C t0) (od := none) ⟨hx₁, rfl, rfl, trivial⟩ T.sa ?_
  refine exc_osa X₁ hx₁ hcl (show refsVE (.ref C :: bm) = true from hbm) rfl T.noN (fun h₃ tk₃ dx k₃ dn dne hx₃ hn₃ => ?_)
  show wpAny _ _ (execs _ _) _ _ _
  have z : s.heap.objs.size < h₁.objs.size := hn.lt
  exact wpAny_execs_nil (hq h₃ tk₃ dx ⟨fun b o hb e => k₃ b o hb (k b o e), hx₃, Nat.le_of_lt (Nat.lt_of_lt_of_le z dn), dne, hn₃⟩)
theorem low_made (T : LowTxt K mg C fI) {v : Value} (X : K.In s.heap) (hlim : s.heap.NoLimit) (hroom : A.depth + 1 < recursionLimit)
    (hq : ∀ h' tk e d, OwnMade s.heap h' e C d v → R (.ok (.ret (.ref e))) { s with heap := h', toks := tk }) :
    codeAny (model prog w) A (.call (.ref C) ⟨[v], []⟩) R s := by
  obtain ⟨nm, q, N, bs, bm, sn, sub, ab, col, dd, k0, k1, k2, k3, k5, hC, hbm⟩ := T.cls
  obtain ⟨hp, g, dr, tk, os⟩ := s
  have k : ∀ b o, hp.get? b = some o → ((hp.push (kdv_tup [v])).push (excO C hp.objs.size)).get? b = some o := fun b o e => Heap.get?_push_of_some _ (Heap.get?_push_of_some _ e)
  have hget : ((hp.push (kdv_tup [v])).push (excO C hp.objs.size)).get? (hp.objs.size + 1) = some (excO C hp.objs.size) := by heap_get
  have hnx : K.lookup (hp.objs.size + 1) = none := by
    cases e : K.lookup (hp.objs.size + 1) with
    | none => rfl
    | some o =>
      have z : hp.get? (hp.objs.size + 1) = some o := X _ _ e
      exact absurd (Nat.lt_of_succ_lt (Heap.lt_size z)) (Nat.lt_irrefl _)
  refine call_own F.excBase_ValueError (fun X => refsVE_contains X bm hbm) (X _ _ hC) (looks_findIn X T.iC) (fun self => bind_fn X self T.tC) (one_size v) ?_
  refine low_init (s := ⟨(hp.push (kdv_tup [v])).push (excO C hp.objs.size), g, dr, tk, os⟩) T (X.keeps k) (hlim.keeps k) hget hnx ?_ fun h' tk' dx ⟨k', hx, dn, dne, hns⟩ => ?_
  · show A.depth + 1 < recursionLimit
    exact hroom
  · have old : ∀ b o, hp.get? b = some o → h'.get? b = some o := fun b o e => k' b o (Nat.ne_of_lt (Nat.lt_succ_of_lt (Heap.lt_size e))) (k b o e)
    have z : hp.objs.size + 1 + 1 ≤ dx := by
      first
        | (simpa only [Heap.size_push] using dn)
        | exact dn
        | (have q := dn; rw [Heap.size_push, Heap.size_push] at q; exact q)
    exact ⟨rfl, hq h' tk' (hp.objs.size + 1) dx ⟨old, Nat.le_succ _, ⟨_, _, hx, rfl, rfl, rfl, rfl⟩, Nat.le_trans (Nat.le_trans (Nat.le_succ _) (Nat.le_succ _)) z, dne, hns⟩⟩
end
end LowF
end PySem
namespace L2
open PySem PySem.Spec PyProof.Rows
theorem relO_lowF {v : V} {v' : Value} (r : RelV v v') (f : Str) : RelO (List.lookup f [(("fault" : Str), v)]) (if f = "fault" then some v' else none) := by
  by_cases hw : f = "fault"
  · subst hw
    rw [if_pos rfl]
    have q : List.lookup ("fault" : Str) [(("fault" : Str), v)] = some v := by simp [List.lookup]
    rw [q]
    exact r
  · rw [if_neg hw]
    have qw : (f == ("fault" : Str)) = false := by simpa using hw
    have q2 : List.lookup f [(("fault" : Str), v)] = none := by simp [List.lookup, qw]
    rw [q2]
    trivial
section
variable {X : Cx} {C fI : Addr}
/-- Low(e) -/
def tMkLowF (C : Addr) (ta : TA) : St → Hp → XK → Prop := fun σ H Q => ta σ H fun vs H1 => ∃ v, vs = [v] ∧ ∀ d, H1 d = none → Q (.ref C) (some d) (upd H1 d (.xd [(("fault" : Str), v)]))
theorem pmk_lowF {a : Expr} {ta : TA} {p pos : Pos} {k : Nat} (T : PySem.LowF.LowTxt X.K X.mg C fI) (hr : Room k X.A) (ha : PA X [a] ta) (hg : Gl X "BadFault" := by rfl)
    (he : starEach (a :: []) X.env = (false, eval a X.env) :: starEach [] X.env := by rfl) (hpl : (backTo pos (starEach [] X.env)).any (·.1) = false := by rfl) :
    PMk X (.Call (.Name "BadFault" p) [a] [] pos) (tMkLowF C ta) := by
  intro pins s σ H Q I h
  refine wpAny_Call_Name_kw (ld_glob I hg T.gC ?_)
  refine PySem.W.callWith_K (h₀ := X.base) I.ok.mod.kin T.kC (thn (ha.run pos pins s σ H _ I h) fun us s1 hh => ?_) he hpl
  obtain ⟨vs, H1, I1, r1, v, ev, q1⟩ := hh
  subst ev
  refine ⟨I1.kIn, ?_⟩
  cases r1 with
  | cons rv rn =>
    rename_i v' us'
    cases rn
    show wpAny _ _ (call (.ref C) [v']) _ _ _
    have hlim := I1.nolimit
    obtain ⟨hp, g, dr, tk, os⟩ := s1
    refine wpAny_call (PySem.LowF.low_made T I1.kIn hlim (by have := hr.dp; omega) fun h' tk' e d M => ?_)
    show MkP X pins σ Q (.ref e) ⟨h', g, dr, tk', os⟩
    obtain ⟨oe, fv, hoe, hc, hd, hdat, h1⟩ := M.obj
    have hns := M.ns
    obtain ⟨G', g1, g2⟩ := restrict h' fun b => decide (b ≠ e)
    have gk : ∀ b, b ≠ e → G'.get? b = h'.get? b := fun b hb => g1 b (decide_eq_true hb)
    have ge : G'.get? e = none := g2 e (by simp)
    have old : ∀ b o, hp.get? b = some o → G'.get? b = some o := fun b o q => (gk b (Nat.ne_of_lt (Nat.lt_of_lt_of_le (Heap.lt_size q) M.new))).trans (M.keep b o q)
    have ob : ObjOk X.prog X.w (upd H1 d (.xd [(("fault" : Str), v)])) G' d (.xd [(("fault" : Str), v)]) :=
      ⟨_, hns.at (fun o q => (gk d M.dne).trans q), fun f => relO_lowF rv f⟩
    have J : Inv X pins σ (upd H1 d (.xd [(("fault" : Str), v)])) ⟨G', g, dr, tk', os⟩ := I1.laid (t' := tk') old M.dbig ob
    refine ⟨e, oe, fv, ⟨G', g, dr, tk', os⟩, _, .ref C, some d, rfl, J, fun b o q => ?_, ge, hoe, ⟨hc, hd⟩, hdat, h1, ?_, rfl, I1.bare, raises_own T.exC T.tyC, q1 d (I1.hok.fresh M.dbig)⟩
    · by_cases hb : b = e
      · have q' : G'.get? b = some o := q
        rw [hb, ge] at q'; cases q'
      · exact (gk b hb).symm.trans q
    · rw [upd_ne (Ne.symm M.dne)]
      exact I1.hok.fresh M.new
/-- raise Low(e) -/
def tRaiseLowF (C : Addr) (W : WX) (ta : TA) : TS := fun _ σ H => tMkLowF C ta σ H fun cls d H' => W cls d σ H'
theorem ps_raiseLowF {a : Expr} {ta : TA} {W : WX} {p pos pos2 : Pos} {k : Nat} (hc : X.calm = true) (T : PySem.LowF.LowTxt X.K X.mg C fI) (hr : Room k X.A) (tk : Takes X W) (ha : PA X [a] ta) (hg : Gl X "BadFault" := by rfl)
    (he : starEach (a :: []) X.env = (false, eval a X.env) :: starEach [] X.env := by rfl) (hpl : (backTo pos (starEach [] X.env)).any (·.1) = false := by rfl) :
    PS X (.Raise (some (.Call (.Name "BadFault" p) [a] [] pos)) none pos2) (tRaiseLowF C W ta) := ps_raise hc tk (pmk_lowF T hr ha hg he hpl)
/-- low.by, low the exception that the suite holds (at a; its class cls, its dict d) -/
def tByLowF (C : Addr) (a : Addr) (cls : Value) (d : Option Addr) (te : TE) : TE := fun σ H Q => te σ H fun x H1 => x = .ref a ∧ cls = .ref C ∧ ∃ (dd : Addr) (v : V), d = some dd ∧ H1 dd = some (.xd [(("fault" : Str), v)]) ∧ Q v H1
theorem pe_byLowF {a : Addr} {oe : Obj} {cls : Value} {d : Option Addr} {pn : List (Addr × Obj)} {e : Expr} {te : TE} {pos : Pos} (T : PySem.LowF.LowTxt X.K X.mg C fI) (hz : Zc cls d oe) (hf : ∃ vs, oe.data = .fields vs) (he : PE (X.suite a ((a, oe) :: pn)) e te)
    (hb : attributeBase e "fault" X.env (eval e X.env) = eval e X.env := by rfl) :
    PE (X.suite a ((a, oe) :: pn)) (.Attribute e "fault" pos) (tByLowF C a cls d te) := by
  refine ⟨fun pins s σ H Q I h => ?_⟩
  refine attr_of hb (thn (he.run pins s σ H _ I h) fun u s1 hh => ?_)
  obtain ⟨x, H1, I1, rx, ex, ec, dd, v, ed, ea, q⟩ := hh
  subst ex
  obtain rfl : u = Value.ref a := rx
  subst ec
  subst ed
  obtain ⟨ha, _⟩ := I1.pin (a, oe) (List.mem_append_left _ List.mem_cons_self)
  obtain ⟨vs, hd⟩ := hf
  have hx : ObjOk X.prog X.w H1 s1.heap dd (.xd [(("fault" : Str), v)]) := I1.hok dd _ ea
  obtain ⟨mA, hns, hr⟩ := hx
  obtain ⟨od, ho, hl⟩ := lookIn_ns hns
  have l : List.lookup ("fault" : Str) [(("fault" : Str), v)] = some v := by simp [List.lookup]
  obtain ⟨u, hu, ru⟩ := RelO.some_of (v := v) (o := mA "fault") (by rw [← l]; exact hr "fault")
  have J : PySem.W.InstAt s1.heap a oe C (some od) := ⟨ha, hz.1, by unfold PySem.W.notCls; rw [hd] <;> rfl, by rw [hz.2]; exact ho⟩
  exact HandSPX.exc_get I1.kIn J T.ga T.gg T.exC (PySem.W.findObj_own T.hdC T.noN rfl (by rw [hl, hu])) (handed_of ru) ⟨v, H1, I1.tok _, ru, q⟩
end
end L2


/-! An own error with one field, BadHouse, as the guide's skeleton on own errors gives it. -/
namespace PySem
namespace LowH
open PySem.W PySem.Calls PyProof.Rows PySem.HandSPX
/-! ### the text of __init__ -/
def iA (p1 p2 : Pos) : Arguments := { posonlyargs := [], args := [{ arg := "self", annotation := none, pos := p1 }, { arg := "what", annotation := none, pos := p2 }], vararg := none, kwonlyargs := [], kw_defaults := [], kwarg := none, defaults := [] }
def iB (q1 q2 q3 q4 : Pos) : List Stmt := [.Assign [.Attribute (.Name "self" q1) "what" q2] (.Name "what" q3) q4]
def iS : Scope := { kind := .function, names := [(PySem.Str.ofString "self", .local), (PySem.Str.ofString "what", .local)], isGenerator := false, isCoroutine := false, more := [] }
/-- what the written part says of Low, at C, and of its __init__, at fI -/
structure LowTxt (K : Frag) (mg : Str → Option Value) (C fI : Addr) : Prop where
  gC : mg "BadHouse" = some (.ref C)
  cls : ∃ nm q N bs bm sn sub ab col dd k0 k1 k2 k3 k5, K.lookup C = some (excClassObj nm q C N bs bm true sn sub ab col dd k0 k1 k2 k3 k5 "ValueError.__new__") ∧ refsVE bm = true
  sa : findIn K (.ref C) "__setattr__" = some (some (.builtin "object.__setattr__"))
  ga : findIn K (.ref C) "__getattribute__" = some (some (.builtin "BaseException.__getattribute__"))
  gg : findIn K (.ref C) "__getattr__" = some none
  noN : findIn K (.ref C) "what" = some none
  iC : findIn K (.ref C) "__init__" = some (some (.ref fI))
  tC : typeIn K (.ref fI) = some (.type "function")
  kC : keepIn K (.ref C) = true
  exC : subIn K (.ref C) (.type "BaseException") = some true
  tyC : typeIn K (.ref C) = some (.type "type")
  hdC : hasDictIn K C = true
  te : exmOne K (.ref C) (.ref C) = some true
  fn : ∃ (oc : Value) (od : Option Addr) (doc pm : Value) (an : Option Addr) (cdv ct : Value) (osl : Array (Option Value)) (p1 p2 q1 q2 q3 q4 : Pos),
    K.lookup fI = some ⟨oc, od, .func (fnOf "__init__" "BadHouse.__init__" (iA p1 p2) (iB q1 q2 q3 q4) iS .none .none doc pm an cdv ct), osl⟩ ∧ codeIn K cdv "BadHouse.__init__" = true
theorem one_size (v : Value) : [v].length ≤ sizeLine := by
  rw [sizeLine_eq]
  exact (by decide : 1 ≤ 16777216)
theorem kept_but {K : Frag} {h h' : Heap} {x : Addr} (X : K.In h) (hx : K.lookup x = none) (k : ∀ b o, b ≠ x → h.get? b = some o → h'.get? b = some o) : K.In h' := fun a o e =>
  k a o (fun z => by rw [z, hx] at e; cases e) (X a o e)
theorem ldC {M : Model} {s : Shared} {name : Str} {scope : Scope} {L a : Addr} {cd : Value} {m : Str → Option Value} {x : Str} {pos : Pos} {v : Value} {Q : Value → Shared → Prop} {A : Around} {E : Value → Shared → Prop} (hn : s.heap.Ns L m) (hv : m x = some v) (h : Q v s)
    (hk : scope.kind = .function := by rfl) (hl : (envOfC name scope L a cd).kindOf x = some .local := by rfl) (hd : (x == ("__debug__" : Str)) = false := by decide) :
    wpAny M A (eval (.Name x pos) (envOfC name scope L a cd)) Q E s := wpAny_Name (wpAny_loadName_local hk hl hn hv h) hd
/-- what __init__ leaves of a fresh exception at x -/
structure InitEnd (h h' : Heap) (x C dx t1 : Addr) (v : Value) : Prop where
  keep : ∀ b o, b ≠ x → h.get? b = some o → h'.get? b = some o
  obj : h'.get? x = some { cls := .ref C, dict := some dx, data := .fields #[.ref t1, .none, .none, .none, .bool false, .none] }
  dbig : h.objs.size ≤ dx
  dne : dx ≠ x
  ns : h'.Ns1 dx (fun y => if y = "what" then some v else none)
/-- a made Low -/
structure OwnMade (h h' : Heap) (e C d : Addr) (v : Value) : Prop where
  keep : ∀ b o, h.get? b = some o → h'.get? b = some o
  new : h.objs.size ≤ e
  obj : ∃ oe vs, h'.get? e = some oe ∧ oe.cls = .ref C ∧ oe.dict = some d ∧ oe.data = .fields vs ∧ vs[1]? = some .none
  dbig : h.objs.size ≤ d
  dne : d ≠ e
  ns : h'.Ns1 d (fun y => if y = "what" then some v else none)
section
variable {prog : Program} {w : World} {A : Around} {E : Value → Shared → Prop} {R : Result → Shared → Prop} {s : Shared} {K : Frag} {mg : Str → Option Value} {C fI : Addr}
theorem low_init (T : LowTxt K mg C fI) {x t0 : Addr} {v : Value} (X : K.In s.heap) (hlim : s.heap.NoLimit) (hx : s.heap.get? x = some (excO C t0)) (hnx : K.lookup x = none) (hroom : A.depth < recursionLimit)
    (hq : ∀ h' tk dx, InitEnd s.heap h' x C dx t0 v → R (.ok (.ret .none)) { s with heap := h', toks := tk }) :
    codeAny (model prog w) A (.call (.ref fI) ⟨[.ref x, v], []⟩) R s := by
  obtain ⟨oc, od, doc, pm, an, cdv, ct, osl, p1, p2, q1, q2, q3, q4, ho, hcd⟩ := T.fn
  obtain ⟨nm, q, N, bs, bm, sn, sub, ab, col, dd, k0, k1, k2, k3, k5, hC, hbm⟩ := T.cls
  have hcl : clsIn K C = some { name := nm, bases := bs, mro := .ref C :: bm, ns := N, qualname := q, hasDict := true, slotNames := sn, subclasses := sub, abstract := ab, collection := col, hasDel := false } := by unfold clsIn; rw [hC] <;> rfl
  refine Att.call_fn (binds := [("self", .ref x), ("what", v)]) X hlim ho hcd hroom (BindsTo.of_eq (by first | rfl | with_unfolding_all rfl)) (by first | rfl | decide | with_unfolding_all rfl) (fun s₁ IC => ?_) rfl rfl rfl
  obtain ⟨h₁, tk₁, rfl⟩ := IC.toInCall.same
  have k : ∀ b o, s.heap.get? b = some o → h₁.get? b = some o := IC.toInCall.keep
  have hn := IC.toInCall.ns
  have hxL : s.heap.objs.size ≠ x := Nat.ne_of_gt (Heap.lt_size hx)
  have X₁ : K.In h₁ := X.keeps k
  have hx₁ := k _ _ hx
  -- self.by = by
  show wpAny _ _ (execs _ _) _ _ _
  refine wpAny_execs_cons (plainObj_wpAny_Assign_Attribute ?_)
  refine ldC (v := v) hn (by first | rfl | with_unfolding_all rfl | kernel_rfl) (ldC (v := .ref x) hn (by first | rfl | with_unfolding_all rfl | kernel_rfl) ?_)
  refine set_plain X₁ (ox := excO C t0) (od := none) ⟨hx₁, rfl, rfl, trivial⟩ T.sa ?_
  refine exc_osa X₁ hx₁ hcl (show refsVE (.ref C :: bm) = true from hbm) rfl T.noN (fun h₃ tk₃ dx k₃ dn dne hx₃ hn₃ => ?_)
  show wpAny _ _ (execs _ _) _ _ _
  have z : s.heap.objs.size < h₁.objs.size := hn.lt
  exact wpAny_execs_nil (hq h₃ tk₃ dx ⟨fun b o hb e => k₃ b o hb (k b o e), hx₃, Nat.le_of_lt (Nat.lt_of_lt_of_le z dn), dne, hn₃⟩)
theorem low_made (T : LowTxt K mg C fI) {v : Value} (X : K.In s.heap) (hlim : s.heap.NoLimit) (hroom : A.depth + 1 < recursionLimit)
    (hq : ∀ h' tk e d, OwnMade s.heap h' e C d v → R (.ok (.ret (.ref e))) { s with heap := h', toks := tk }) :
    codeAny (model prog w) A (.call (.ref C) ⟨[v], []⟩) R s := by
  obtain ⟨nm, q, N, bs, bm, sn, sub, ab, col, dd, k0, k1, k2, k3, k5, hC, hbm⟩ := T.cls
  obtain ⟨hp, g, dr, tk, os⟩ := s
  have k : ∀ b o, hp.get? b = some o → ((hp.push (kdv_tup [v])).push (excO C hp.objs.size)).get? b = some o := fun b o e => Heap.get?_push_of_some _ (Heap.get?_push_of_some _ e)
  have hget : ((hp.push (kdv_tup [v])).push (excO C hp.objs.size)).get? (hp.objs.size + 1) = some (excO C hp.objs.size) := by heap_get
  have hnx : K.lookup (hp.objs.size + 1) = none := by
    cases e : K.lookup (hp.objs.size + 1) with
    | none => rfl
    | some o =>
      have z : hp.get? (hp.objs.size + 1) = some o := X _ _ e
      exact absurd (Nat.lt_of_succ_lt (Heap.lt_size z)) (Nat.lt_irrefl _)
  refine call_own F.excBase_ValueError (fun X => refsVE_contains X bm hbm) (X _ _ hC) (looks_findIn X T.iC) (fun self => bind_fn X self T.tC) (one_size v) ?_
  refine low_init (s := ⟨(hp.push (kdv_tup [v])).push (excO C hp.objs.size), g, dr, tk, os⟩) T (X.keeps k) (hlim.keeps k) hget hnx ?_ fun h' tk' dx ⟨k', hx, dn, dne, hns⟩ => ?_
  · show A.depth + 1 < recursionLimit
    exact hroom
  · have old : ∀ b o, hp.get? b = some o → h'.get? b = some o := fun b o e => k' b o (Nat.ne_of_lt (Nat.lt_succ_of_lt (Heap.lt_size e))) (k b o e)
    have z : hp.objs.size + 1 + 1 ≤ dx := by
      first
        | (simpa only [Heap.size_push] using dn)
        | exact dn
        | (have q := dn; rw [Heap.size_push, Heap.size_push] at q; exact q)
    exact ⟨rfl, hq h' tk' (hp.objs.size + 1) dx ⟨old, Nat.le_succ _, ⟨_, _, hx, rfl, rfl, rfl, rfl⟩, Nat.le_trans (Nat.le_trans (Nat.le_succ _) (Nat.le_succ _)) z, dne, hns⟩⟩
end
end LowH
end PySem
namespace L2
open PySem PySem.Spec PyProof.Rows
theorem relO_lowH {v : V} {v' : Value} (r : RelV v v') (f : Str) : RelO (List.lookup f [(("what" : Str), v)]) (if f = "what" then some v' else none) := by
  by_cases hw : f = "what"
  · subst hw
    rw [if_pos rfl]
    have q : List.lookup ("what" : Str) [(("what" : Str), v)] = some v := by simp [List.lookup]
    rw [q]
    exact r
  · rw [if_neg hw]
    have qw : (f == ("what" : Str)) = false := by simpa using hw
    have q2 : List.lookup f [(("what" : Str), v)] = none := by simp [List.lookup, qw]
    rw [q2]
    trivial
section
variable {X : Cx} {C fI : Addr}
/-- Low(e) -/
def tMkLowH (C : Addr) (ta : TA) : St → Hp → XK → Prop := fun σ H Q => ta σ H fun vs H1 => ∃ v, vs = [v] ∧ ∀ d, H1 d = none → Q (.ref C) (some d) (upd H1 d (.xd [(("what" : Str), v)]))
theorem pmk_lowH {a : Expr} {ta : TA} {p pos : Pos} {k : Nat} (T : PySem.LowH.LowTxt X.K X.mg C fI) (hr : Room k X.A) (ha : PA X [a] ta) (hg : Gl X "BadHouse" := by rfl)
    (he : starEach (a :: []) X.env = (false, eval a X.env) :: starEach [] X.env := by rfl) (hpl : (backTo pos (starEach [] X.env)).any (·.1) = false := by rfl) :
    PMk X (.Call (.Name "BadHouse" p) [a] [] pos) (tMkLowH C ta) := by
  intro pins s σ H Q I h
  refine wpAny_Call_Name_kw (ld_glob I hg T.gC ?_)
  refine PySem.W.callWith_K (h₀ := X.base) I.ok.mod.kin T.kC (thn (ha.run pos pins s σ H _ I h) fun us s1 hh => ?_) he hpl
  obtain ⟨vs, H1, I1, r1, v, ev, q1⟩ := hh
  subst ev
  refine ⟨I1.kIn, ?_⟩
  cases r1 with
  | cons rv rn =>
    rename_i v' us'
    cases rn
    show wpAny _ _ (call (.ref C) [v']) _ _ _
    have hlim := I1.nolimit
    obtain ⟨hp, g, dr, tk, os⟩ := s1
    refine wpAny_call (PySem.LowH.low_made T I1.kIn hlim (by have := hr.dp; omega) fun h' tk' e d M => ?_)
    show MkP X pins σ Q (.ref e) ⟨h', g, dr, tk', os⟩
    obtain ⟨oe, fv, hoe, hc, hd, hdat, h1⟩ := M.obj
    have hns := M.ns
    obtain ⟨G', g1, g2⟩ := restrict h' fun b => decide (b ≠ e)
    have gk : ∀ b, b ≠ e → G'.get? b = h'.get? b := fun b hb => g1 b (decide_eq_true hb)
    have ge : G'.get? e = none := g2 e (by simp)
    have old : ∀ b o, hp.get? b = some o → G'.get? b = some o := fun b o q => (gk b (Nat.ne_of_lt (Nat.lt_of_lt_of_le (Heap.lt_size q) M.new))).trans (M.keep b o q)
    have ob : ObjOk X.prog X.w (upd H1 d (.xd [(("what" : Str), v)])) G' d (.xd [(("what" : Str), v)]) :=
      ⟨_, hns.at (fun o q => (gk d M.dne).trans q), fun f => relO_lowH rv f⟩
    have J : Inv X pins σ (upd H1 d (.xd [(("what" : Str), v)])) ⟨G', g, dr, tk', os⟩ := I1.laid (t' := tk') old M.dbig ob
    refine ⟨e, oe, fv, ⟨G', g, dr, tk', os⟩, _, .ref C, some d, rfl, J, fun b o q => ?_, ge, hoe, ⟨hc, hd⟩, hdat, h1, ?_, rfl, I1.bare, raises_own T.exC T.tyC, q1 d (I1.hok.fresh M.dbig)⟩
    · by_cases hb : b = e
      · have q' : G'.get? b = some o := q
        rw [hb, ge] at q'; cases q'
      · exact (gk b hb).symm.trans q
    · rw [upd_ne (Ne.symm M.dne)]
      exact I1.hok.fresh M.new
/-- raise Low(e) -/
def tRaiseLowH (C : Addr) (W : WX) (ta : TA) : TS := fun _ σ H => tMkLowH C ta σ H fun cls d H' => W cls d σ H'
theorem ps_raiseLowH {a : Expr} {ta : TA} {W : WX} {p pos pos2 : Pos} {k : Nat} (hc : X.calm = true) (T : PySem.LowH.LowTxt X.K X.mg C fI) (hr : Room k X.A) (tk : Takes X W) (ha : PA X [a] ta) (hg : Gl X "BadHouse" := by rfl)
    (he : starEach (a :: []) X.env = (false, eval a X.env) :: starEach [] X.env := by rfl) (hpl : (backTo pos (starEach [] X.env)).any (·.1) = false := by rfl) :
    PS X (.Raise (some (.Call (.Name "BadHouse" p) [a] [] pos)) none pos2) (tRaiseLowH C W ta) := ps_raise hc tk (pmk_lowH T hr ha hg he hpl)
/-- low.by, low the exception that the suite holds (at a; its class cls, its dict d) -/
def tByLowH (C : Addr) (a : Addr) (cls : Value) (d : Option Addr) (te : TE) : TE := fun σ H Q => te σ H fun x H1 => x = .ref a ∧ cls = .ref C ∧ ∃ (dd : Addr) (v : V), d = some dd ∧ H1 dd = some (.xd [(("what" : Str), v)]) ∧ Q v H1
theorem pe_byLowH {a : Addr} {oe : Obj} {cls : Value} {d : Option Addr} {pn : List (Addr × Obj)} {e : Expr} {te : TE} {pos : Pos} (T : PySem.LowH.LowTxt X.K X.mg C fI) (hz : Zc cls d oe) (hf : ∃ vs, oe.data = .fields vs) (he : PE (X.suite a ((a, oe) :: pn)) e te)
    (hb : attributeBase e "what" X.env (eval e X.env) = eval e X.env := by rfl) :
    PE (X.suite a ((a, oe) :: pn)) (.Attribute e "what" pos) (tByLowH C a cls d te) := by
  refine ⟨fun pins s σ H Q I h => ?_⟩
  refine attr_of hb (thn (he.run pins s σ H _ I h) fun u s1 hh => ?_)
  obtain ⟨x, H1, I1, rx, ex, ec, dd, v, ed, ea, q⟩ := hh
  subst ex
  obtain rfl : u = Value.ref a := rx
  subst ec
  subst ed
  obtain ⟨ha, _⟩ := I1.pin (a, oe) (List.mem_append_left _ List.mem_cons_self)
  obtain ⟨vs, hd⟩ := hf
  have hx : ObjOk X.prog X.w H1 s1.heap dd (.xd [(("what" : Str), v)]) := I1.hok dd _ ea
  obtain ⟨mA, hns, hr⟩ := hx
  obtain ⟨od, ho, hl⟩ := lookIn_ns hns
  have l : List.lookup ("what" : Str) [(("what" : Str), v)] = some v := by simp [List.lookup]
  obtain ⟨u, hu, ru⟩ := RelO.some_of (v := v) (o := mA "what") (by rw [← l]; exact hr "what")
  have J : PySem.W.InstAt s1.heap a oe C (some od) := ⟨ha, hz.1, by unfold PySem.W.notCls; rw [hd] <;> rfl, by rw [hz.2]; exact ho⟩
  exact HandSPX.exc_get I1.kIn J T.ga T.gg T.exC (PySem.W.findObj_own T.hdC T.noN rfl (by rw [hl, hu])) (handed_of ru) ⟨v, H1, I1.tok _, ru, q⟩
end
end L2


/-! An own error with one field, NoFault, as the guide's skeleton on own errors gives it. -/
namespace PySem
namespace LowN
open PySem.W PySem.Calls PyProof.Rows PySem.HandSPX
/-! ### the text of __init__ -/
def iA (p1 p2 : Pos) : Arguments := { posonlyargs := [], args := [{ arg := "self", annotation := none, pos := p1 }, { arg := "fault", annotation := none, pos := p2 }], vararg := none, kwonlyargs := [], kw_defaults := [], kwarg := none, defaults := [] }
def iB (q1 q2 q3 q4 : Pos) : List Stmt := [.Assign [.Attribute (.Name "self" q1) "fault" q2] (.Name "fault" q3) q4]
def iS : Scope := { kind := .function, names := [(PySem.Str.ofString "self", .local), (PySem.Str.ofString "fault", .local)], isGenerator := false, isCoroutine := false, more := [] }
/-- what the written part says of Low, at C, and of its __init__, at fI -/
structure LowTxt (K : Frag) (mg : Str → Option Value) (C fI : Addr) : Prop where
  gC : mg "NoFault" = some (.ref C)
  cls : ∃ nm q N bs bm sn sub ab col dd k0 k1 k2 k3 k5, K.lookup C = some (excClassObj nm q C N bs bm true sn sub ab col dd k0 k1 k2 k3 k5 "ValueError.__new__") ∧ refsVE bm = true
  sa : findIn K (.ref C) "__setattr__" = some (some (.builtin "object.__setattr__"))
  ga : findIn K (.ref C) "__getattribute__" = some (some (.builtin "BaseException.__getattribute__"))
  gg : findIn K (.ref C) "__getattr__" = some none
  noN : findIn K (.ref C) "fault" = some none
  iC : findIn K (.ref C) "__init__" = some (some (.ref fI))
  tC : typeIn K (.ref fI) = some (.type "function")
  kC : keepIn K (.ref C) = true
  exC : subIn K (.ref C) (.type "BaseException") = some true
  tyC : typeIn K (.ref C) = some (.type "type")
  hdC : hasDictIn K C = true
  te : exmOne K (.ref C) (.ref C) = some true
  fn : ∃ (oc : Value) (od : Option Addr) (doc pm : Value) (an : Option Addr) (cdv ct : Value) (osl : Array (Option Value)) (p1 p2 q1 q2 q3 q4 : Pos),
    K.lookup fI = some ⟨oc, od, .func (fnOf "__init__" "NoFault.__init__" (iA p1 p2) (iB q1 q2 q3 q4) iS .none .none doc pm an cdv ct), osl⟩ ∧ codeIn K cdv "NoFault.__init__" = true
theorem one_size (v : Value) : [v].length ≤ sizeLine := by
  rw [sizeLine_eq]
  exact (by decide : 1 ≤ 16777216)
theorem kept_but {K : Frag} {h h' : Heap} {x : Addr} (X : K.In h) (hx : K.lookup x = none) (k : ∀ b o, b ≠ x → h.get? b = some o → h'.get? b = some o) : K.In h' := fun a o e =>
  k a o (fun z => by rw [z, hx] at e; cases e) (X a o e)
theorem ldC {M : Model} {s : Shared} {name : Str} {scope : Scope} {L a : Addr} {cd : Value} {m : Str → Option Value} {x : Str} {pos : Pos} {v : Value} {Q : Value → Shared → Prop} {A : Around} {E : Value → Shared → Prop} (hn : s.heap.Ns L m) (hv : m x = some v) (h : Q v s)
    (hk : scope.kind = .function := by rfl) (hl : (envOfC name scope L a cd).kindOf x = some .local := by rfl) (hd : (x == ("__debug__" : Str)) = false := by decide) :
    wpAny M A (eval (.Name x pos) (envOfC name scope L a cd)) Q E s := wpAny_Name (wpAny_loadName_local hk hl hn hv h) hd
/-- what __init__ leaves of a fresh exception at x -/
structure InitEnd (h h' : Heap) (x C dx t1 : Addr) (v : Value) : Prop where
  keep : ∀ b o, b ≠ x → h.get? b = some o → h'.get? b = some o
  obj : h'.get? x = some { cls := .ref C, dict := some dx, data := .fields #[.ref t1, .none, .none, .none, .bool false, .none] }
  dbig : h.objs.size ≤ dx
  dne : dx ≠ x
  ns : h'.Ns1 dx (fun y => if y = "fault" then some v else none)
/-- a made Low -/
structure OwnMade (h h' : Heap) (e C d : Addr) (v : Value) : Prop where
  keep : ∀ b o, h.get? b = some o → h'.get? b = some o
  new : h.objs.size ≤ e
  obj : ∃ oe vs, h'.get? e = some oe ∧ oe.cls = .ref C ∧ oe.dict = some d ∧ oe.data = .fields vs ∧ vs[1]? = some .none
  dbig : h.objs.size ≤ d
  dne : d ≠ e
  ns : h'.Ns1 d (fun y => if y = "fault" then some v else none)
section
variable {prog : Program} {w : World} {A : Around} {E : Value → Shared → Prop} {R : Result → Shared → Prop} {s : Shared} {K : Frag} {mg : Str → Option Value} {C fI : Addr}
theorem low_init (T : LowTxt K mg C fI) {x t0 : Addr} {v : Value} (X : K.In s.heap) (hlim : s.heap.NoLimit) (hx : s.heap.get? x = some (excO C t0)) (hnx : K.lookup x = none) (hroom : A.depth < recursionLimit)
    (hq : ∀ h' tk dx, InitEnd s.heap h' x C dx t0 v → R (.ok (.ret .none)) { s with heap := h', toks := tk }) :
    codeAny (model prog w) A (.call (.ref fI) ⟨[.ref x, v], []⟩) R s := by
  obtain ⟨oc, od, doc, pm, an, cdv, ct, osl, p1, p2, q1, q2, q3, q4, ho, hcd⟩ := T.fn
  obtain ⟨nm, q, N, bs, bm, sn, sub, ab, col, dd, k0, k1, k2, k3, k5, hC, hbm⟩ := T.cls
  have hcl : clsIn K C = some { name := nm, bases := bs, mro := .ref C :: bm, ns := N, qualname := q, hasDict := true, slotNames := sn, subclasses := sub, abstract := ab, collection := col, hasDel := false } := by unfold clsIn; rw [hC] <;> rfl
  refine Att.call_fn (binds := [("self", .ref x), ("fault", v)]) X hlim ho hcd hroom (BindsTo.of_eq (by first | rfl | with_unfolding_all rfl)) (by first | rfl | decide | with_unfolding_all rfl) (fun s₁ IC => ?_) rfl rfl rfl
  obtain ⟨h₁, tk₁, rfl⟩ := IC.toInCall.same
  have k : ∀ b o, s.heap.get? b = some o → h₁.get? b = some o := IC.toInCall.keep
  have hn := IC.toInCall.ns
  have hxL : s.heap.objs.size ≠ x := Nat.ne_of_gt (Heap.lt_size hx)
  have X₁ : K.In h₁ := X.keeps k
  have hx₁ := k _ _ hx
  -- self.by = by
  show wpAny _ _ (execs _ _) _ _ _
  refine wpAny_execs_cons (plainObj_wpAny_Assign_Attribute ?_)
  refine ldC (v := v) hn (by first | rfl | with_unfolding_all rfl | kernel_rfl) (ldC (v := .ref x) hn (by first | rfl | with_unfolding_all rfl | kernel_rfl) ?_)
  refine set_plain X₁ (ox := excO C t0) (od := none) ⟨hx₁, rfl, rfl, trivial⟩ T.sa ?_
  refine exc_osa X₁ hx₁ hcl (show refsVE (.ref C :: bm) = true from hbm) rfl T.noN (fun h₃ tk₃ dx k₃ dn dne hx₃ hn₃ => ?_)
  show wpAny _ _ (execs _ _) _ _ _
  have z : s.heap.objs.size < h₁.objs.size := hn.lt
  exact wpAny_execs_nil (hq h₃ tk₃ dx ⟨fun b o hb e => k₃ b o hb (k b o e), hx₃, Nat.le_of_lt (Nat.lt_of_lt_of_le z dn), dne, hn₃⟩)
theorem low_made (T : LowTxt K mg C fI) {v : Value} (X : K.In s.heap) (hlim : s.heap.NoLimit) (hroom : A.depth + 1 < recursionLimit)
    (hq : ∀ h' tk e d, OwnMade s.heap h' e C d v → R (.ok (.ret (.ref e))) { s with heap := h', toks := tk }) :
    codeAny (model prog w) A (.call (.ref C) ⟨[v], []⟩) R s := by
  obtain ⟨nm, q, N, bs, bm, sn, sub, ab, col, dd, k0, k1, k2, k3, k5, hC, hbm⟩ := T.cls
  obtain ⟨hp, g, dr, tk, os⟩ := s
  have k : ∀ b o, hp.get? b = some o → ((hp.push (kdv_tup [v])).push (excO C hp.objs.size)).get? b = some o := fun b o e => Heap.get?_push_of_some _ (Heap.get?_push_of_some _ e)
  have hget : ((hp.push (kdv_tup [v])).push (excO C hp.objs.size)).get? (hp.objs.size + 1) = some (excO C hp.objs.size) := by heap_get
  have hnx : K.lookup (hp.objs.size + 1) = none := by
    cases e : K.lookup (hp.objs.size + 1) with
    | none => rfl
    | some o =>
      have z : hp.get? (hp.objs.size + 1) = some o := X _ _ e
      exact absurd (Nat.lt_of_succ_lt (Heap.lt_size z)) (Nat.lt_irrefl _)
  refine call_own F.excBase_ValueError (fun X => refsVE_contains X bm hbm) (X _ _ hC) (looks_findIn X T.iC) (fun self => bind_fn X self T.tC) (one_size v) ?_
  refine low_init (s := ⟨(hp.push (kdv_tup [v])).push (excO C hp.objs.size), g, dr, tk, os⟩) T (X.keeps k) (hlim.keeps k) hget hnx ?_ fun h' tk' dx ⟨k', hx, dn, dne, hns⟩ => ?_
  · show A.depth + 1 < recursionLimit
    exact hroom
  · have old : ∀ b o, hp.get? b = some o → h'.get? b = some o := fun b o e => k' b o (Nat.ne_of_lt (Nat.lt_succ_of_lt (Heap.lt_size e))) (k b o e)
    have z : hp.objs.size + 1 + 1 ≤ dx := by
      first
        | (simpa only [Heap.size_push] using dn)
        | exact dn
        | (have q := dn; rw [Heap.size_push, Heap.size_push] at q; exact q)
    exact ⟨rfl, hq h' tk' (hp.objs.size + 1) dx ⟨old, Nat.le_succ _, ⟨_, _, hx, rfl, rfl, rfl, rfl⟩, Nat.le_trans (Nat.le_trans (Nat.le_succ _) (Nat.le_succ _)) z, dne, hns⟩⟩
end
end LowN
end PySem
namespace L2
open PySem PySem.Spec PyProof.Rows
theorem relO_lowN {v : V} {v' : Value} (r : RelV v v') (f : Str) : RelO (List.lookup f [(("fault" : Str), v)]) (if f = "fault" then some v' else none) := by
  by_cases hw : f = "fault"
  · subst hw
    rw [if_pos rfl]
    have q : List.lookup ("fault" : Str) [(("fault" : Str), v)] = some v := by simp [List.lookup]
    rw [q]
    exact r
  · rw [if_neg hw]
    have qw : (f == ("fault" : Str)) = false := by simpa using hw
    have q2 : List.lookup f [(("fault" : Str), v)] = none := by simp [List.lookup, qw]
    rw [q2]
    trivial
section
variable {X : Cx} {C fI : Addr}
/-- Low(e) -/
def tMkLowN (C : Addr) (ta : TA) : St → Hp → XK → Prop := fun σ H Q => ta σ H fun vs H1 => ∃ v, vs = [v] ∧ ∀ d, H1 d = none → Q (.ref C) (some d) (upd H1 d (.xd [(("fault" : Str), v)]))
theorem pmk_lowN {a : Expr} {ta : TA} {p pos : Pos} {k : Nat} (T : PySem.LowN.LowTxt X.K X.mg C fI) (hr : Room k X.A) (ha : PA X [a] ta) (hg : Gl X "NoFault" := by rfl)
    (he : starEach (a :: []) X.env = (false, eval a X.env) :: starEach [] X.env := by rfl) (hpl : (backTo pos (starEach [] X.env)).any (·.1) = false := by rfl) :
    PMk X (.Call (.Name "NoFault" p) [a] [] pos) (tMkLowN C ta) := by
  intro pins s σ H Q I h
  refine wpAny_Call_Name_kw (ld_glob I hg T.gC ?_)
  refine PySem.W.callWith_K (h₀ := X.base) I.ok.mod.kin T.kC (thn (ha.run pos pins s σ H _ I h) fun us s1 hh => ?_) he hpl
  obtain ⟨vs, H1, I1, r1, v, ev, q1⟩ := hh
  subst ev
  refine ⟨I1.kIn, ?_⟩
  cases r1 with
  | cons rv rn =>
    rename_i v' us'
    cases rn
    show wpAny _ _ (call (.ref C) [v']) _ _ _
    have hlim := I1.nolimit
    obtain ⟨hp, g, dr, tk, os⟩ := s1
    refine wpAny_call (PySem.LowN.low_made T I1.kIn hlim (by have := hr.dp; omega) fun h' tk' e d M => ?_)
    show MkP X pins σ Q (.ref e) ⟨h', g, dr, tk', os⟩
    obtain ⟨oe, fv, hoe, hc, hd, hdat, h1⟩ := M.obj
    have hns := M.ns
    obtain ⟨G', g1, g2⟩ := restrict h' fun b => decide (b ≠ e)
    have gk : ∀ b, b ≠ e → G'.get? b = h'.get? b := fun b hb => g1 b (decide_eq_true hb)
    have ge : G'.get? e = none := g2 e (by simp)
    have old : ∀ b o, hp.get? b = some o → G'.get? b = some o := fun b o q => (gk b (Nat.ne_of_lt (Nat.lt_of_lt_of_le (Heap.lt_size q) M.new))).trans (M.keep b o q)
    have ob : ObjOk X.prog X.w (upd H1 d (.xd [(("fault" : Str), v)])) G' d (.xd [(("fault" : Str), v)]) :=
      ⟨_, hns.at (fun o q => (gk d M.dne).trans q), fun f => relO_lowN rv f⟩
    have J : Inv X pins σ (upd H1 d (.xd [(("fault" : Str), v)])) ⟨G', g, dr, tk', os⟩ := I1.laid (t' := tk') old M.dbig ob
    refine ⟨e, oe, fv, ⟨G', g, dr, tk', os⟩, _, .ref C, some d, rfl, J, fun b o q => ?_, ge, hoe, ⟨hc, hd⟩, hdat, h1, ?_, rfl, I1.bare, raises_own T.exC T.tyC, q1 d (I1.hok.fresh M.dbig)⟩
    · by_cases hb : b = e
      · have q' : G'.get? b = some o := q
        rw [hb, ge] at q'; cases q'
      · exact (gk b hb).symm.trans q
    · rw [upd_ne (Ne.symm M.dne)]
      exact I1.hok.fresh M.new
/-- raise Low(e) -/
def tRaiseLowN (C : Addr) (W : WX) (ta : TA) : TS := fun _ σ H => tMkLowN C ta σ H fun cls d H' => W cls d σ H'
theorem ps_raiseLowN {a : Expr} {ta : TA} {W : WX} {p pos pos2 : Pos} {k : Nat} (hc : X.calm = true) (T : PySem.LowN.LowTxt X.K X.mg C fI) (hr : Room k X.A) (tk : Takes X W) (ha : PA X [a] ta) (hg : Gl X "NoFault" := by rfl)
    (he : starEach (a :: []) X.env = (false, eval a X.env) :: starEach [] X.env := by rfl) (hpl : (backTo pos (starEach [] X.env)).any (·.1) = false := by rfl) :
    PS X (.Raise (some (.Call (.Name "NoFault" p) [a] [] pos)) none pos2) (tRaiseLowN C W ta) := ps_raise hc tk (pmk_lowN T hr ha hg he hpl)
/-- low.by, low the exception that the suite holds (at a; its class cls, its dict d) -/
def tByLowN (C : Addr) (a : Addr) (cls : Value) (d : Option Addr) (te : TE) : TE := fun σ H Q => te σ H fun x H1 => x = .ref a ∧ cls = .ref C ∧ ∃ (dd : Addr) (v : V), d = some dd ∧ H1 dd = some (.xd [(("fault" : Str), v)]) ∧ Q v H1
theorem pe_byLowN {a : Addr} {oe : Obj} {cls : Value} {d : Option Addr} {pn : List (Addr × Obj)} {e : Expr} {te : TE} {pos : Pos} (T : PySem.LowN.LowTxt X.K X.mg C fI) (hz : Zc cls d oe) (hf : ∃ vs, oe.data = .fields vs) (he : PE (X.suite a ((a, oe) :: pn)) e te)
    (hb : attributeBase e "fault" X.env (eval e X.env) = eval e X.env := by rfl) :
    PE (X.suite a ((a, oe) :: pn)) (.Attribute e "fault" pos) (tByLowN C a cls d te) := by
  refine ⟨fun pins s σ H Q I h => ?_⟩
  refine attr_of hb (thn (he.run pins s σ H _ I h) fun u s1 hh => ?_)
  obtain ⟨x, H1, I1, rx, ex, ec, dd, v, ed, ea, q⟩ := hh
  subst ex
  obtain rfl : u = Value.ref a := rx
  subst ec
  subst ed
  obtain ⟨ha, _⟩ := I1.pin (a, oe) (List.mem_append_left _ List.mem_cons_self)
  obtain ⟨vs, hd⟩ := hf
  have hx : ObjOk X.prog X.w H1 s1.heap dd (.xd [(("fault" : Str), v)]) := I1.hok dd _ ea
  obtain ⟨mA, hns, hr⟩ := hx
  obtain ⟨od, ho, hl⟩ := lookIn_ns hns
  have l : List.lookup ("fault" : Str) [(("fault" : Str), v)] = some v := by simp [List.lookup]
  obtain ⟨u, hu, ru⟩ := RelO.some_of (v := v) (o := mA "fault") (by rw [← l]; exact hr "fault")
  have J : PySem.W.InstAt s1.heap a oe C (some od) := ⟨ha, hz.1, by unfold PySem.W.notCls; rw [hd] <;> rfl, by rw [hz.2]; exact ho⟩
  exact HandSPX.exc_get I1.kIn J T.ga T.gg T.exC (PySem.W.findObj_own T.hdC T.noN rfl (by rw [hl, hu])) (handed_of ru) ⟨v, H1, I1.tok _, ru, q⟩
end
end L2


/-! An exception made whose record has its six fields; raise X(..) from e in the suite that handles e. -/
namespace L2
open PySem PySem.Spec PyProof.Rows HotX
def PMkS (X : Cx) (e : Expr) (t : St → Hp → XK → Prop) : Prop :=
  ∀ (pins : List (Addr × Obj)) (s : Shared) (σ : St) (H : Hp) (Q : XK), Inv X pins σ H s → t σ H Q → wpAny (model X.prog X.w) X.A (eval e X.env) (fun u s' => MkP X pins σ Q u s' ∧ L2H.Six u s') X.xe s
theorem PMkS.pmk {X : Cx} {e : Expr} {t : St → Hp → XK → Prop} (h : PMkS X e t) : PMk X e t := fun pins s σ H Q I q => thn (h pins s σ H Q I q) fun _ _ x => x.1
end L2

/-! An own error with two fields, BadLevels, after the one with one field. -/
namespace PySem
namespace LowV
open PySem.W PySem.Calls PyProof.Rows PySem.HandSPX
/-! ### the text of __init__ -/
def iA (p1 p2 p3 : Pos) : Arguments := { posonlyargs := [], args := [{ arg := "self", annotation := none, pos := p1 }, { arg := "what", annotation := none, pos := p2 }, { arg := "at", annotation := none, pos := p3 }], vararg := none, kwonlyargs := [], kw_defaults := [], kwarg := none, defaults := [] }
def iB (q1 q2 q3 q4 q5 q6 q7 q8 : Pos) : List Stmt := [.Assign [.Attribute (.Name "self" q1) "what" q2] (.Name "what" q3) q4, .Assign [.Attribute (.Name "self" q5) "at" q6] (.Name "at" q7) q8]
def iS : Scope := { kind := .function, names := [(PySem.Str.ofString "self", .local), (PySem.Str.ofString "what", .local), (PySem.Str.ofString "at", .local)], isGenerator := false, isCoroutine := false, more := [] }
/-- what the written part says of Low, at C, and of its __init__, at fI -/
structure LowTxt (K : Frag) (mg : Str → Option Value) (C fI : Addr) : Prop where
  gC : mg "BadLevels" = some (.ref C)
  cls : ∃ nm q N bs bm sn sub ab col dd k0 k1 k2 k3 k5, K.lookup C = some (excClassObj nm q C N bs bm true sn sub ab col dd k0 k1 k2 k3 k5 "ValueError.__new__") ∧ refsVE bm = true
  sa : findIn K (.ref C) "__setattr__" = some (some (.builtin "object.__setattr__"))
  ga : findIn K (.ref C) "__getattribute__" = some (some (.builtin "BaseException.__getattribute__"))
  gg : findIn K (.ref C) "__getattr__" = some none
  noN : findIn K (.ref C) "what" = some none
  noM : findIn K (.ref C) "at" = some none
  iC : findIn K (.ref C) "__init__" = some (some (.ref fI))
  tC : typeIn K (.ref fI) = some (.type "function")
  kC : keepIn K (.ref C) = true
  exC : subIn K (.ref C) (.type "BaseException") = some true
  tyC : typeIn K (.ref C) = some (.type "type")
  hdC : hasDictIn K C = true
  te : exmOne K (.ref C) (.ref C) = some true
  fn : ∃ (oc : Value) (od : Option Addr) (doc pm : Value) (an : Option Addr) (cdv ct : Value) (osl : Array (Option Value)) (p1 p2 p3 q1 q2 q3 q4 q5 q6 q7 q8 : Pos),
    K.lookup fI = some ⟨oc, od, .func (fnOf "__init__" "BadLevels.__init__" (iA p1 p2 p3) (iB q1 q2 q3 q4 q5 q6 q7 q8) iS .none .none doc pm an cdv ct), osl⟩ ∧ codeIn K cdv "BadLevels.__init__" = true
theorem one_size (v u : Value) : [v, u].length ≤ sizeLine := by
  rw [sizeLine_eq]
  exact (by decide : 2 ≤ 16777216)
theorem kept_but {K : Frag} {h h' : Heap} {x : Addr} (X : K.In h) (hx : K.lookup x = none) (k : ∀ b o, b ≠ x → h.get? b = some o → h'.get? b = some o) : K.In h' := fun a o e =>
  k a o (fun z => by rw [z, hx] at e; cases e) (X a o e)
theorem ldC {M : Model} {s : Shared} {name : Str} {scope : Scope} {L a : Addr} {cd : Value} {m : Str → Option Value} {x : Str} {pos : Pos} {v : Value} {Q : Value → Shared → Prop} {A : Around} {E : Value → Shared → Prop} (hn : s.heap.Ns L m) (hv : m x = some v) (h : Q v s)
    (hk : scope.kind = .function := by rfl) (hl : (envOfC name scope L a cd).kindOf x = some .local := by rfl) (hd : (x == ("__debug__" : Str)) = false := by decide) :
    wpAny M A (eval (.Name x pos) (envOfC name scope L a cd)) Q E s := wpAny_Name (wpAny_loadName_local hk hl hn hv h) hd
/-- what __init__ leaves of a fresh exception at x -/
structure InitEnd (h h' : Heap) (x C dx t1 : Addr) (v u : Value) : Prop where
  keep : ∀ b o, b ≠ x → h.get? b = some o → h'.get? b = some o
  obj : h'.get? x = some { cls := .ref C, dict := some dx, data := .fields #[.ref t1, .none, .none, .none, .bool false, .none] }
  dbig : h.objs.size ≤ dx
  dne : dx ≠ x
  ns : h'.Ns1 dx (fun y => if y = "at" then some u else if y = "what" then some v else none)
/-- a made Low -/
structure OwnMade (h h' : Heap) (e C d : Addr) (v u : Value) : Prop where
  keep : ∀ b o, h.get? b = some o → h'.get? b = some o
  new : h.objs.size ≤ e
  obj : ∃ oe vs, h'.get? e = some oe ∧ oe.cls = .ref C ∧ oe.dict = some d ∧ oe.data = .fields vs ∧ vs[1]? = some .none ∧ 4 < vs.size
  dbig : h.objs.size ≤ d
  dne : d ≠ e
  ns : h'.Ns1 d (fun y => if y = "at" then some u else if y = "what" then some v else none)
section
variable {prog : Program} {w : World} {A : Around} {E : Value → Shared → Prop} {R : Result → Shared → Prop} {s : Shared} {K : Frag} {mg : Str → Option Value} {C fI : Addr}
theorem low_init (T : LowTxt K mg C fI) {x t0 : Addr} {v u : Value} (X : K.In s.heap) (hlim : s.heap.NoLimit) (hx : s.heap.get? x = some (excO C t0)) (hnx : K.lookup x = none) (hroom : A.depth < recursionLimit)
    (hq : ∀ h' tk dx, InitEnd s.heap h' x C dx t0 v u → R (.ok (.ret .none)) { s with heap := h', toks := tk }) :
    codeAny (model prog w) A (.call (.ref fI) ⟨[.ref x, v, u], []⟩) R s := by
  obtain ⟨oc, od, doc, pm, an, cdv, ct, osl, p1, p2, p3, q1, q2, q3, q4, q5, q6, q7, q8, ho, hcd⟩ := T.fn
  obtain ⟨nm, q, N, bs, bm, sn, sub, ab, col, dd, k0, k1, k2, k3, k5, hC, hbm⟩ := T.cls
  have hcl : clsIn K C = some { name := nm, bases := bs, mro := .ref C :: bm, ns := N, qualname := q, hasDict := true, slotNames := sn, subclasses := sub, abstract := ab, collection := col, hasDel := false } := by unfold clsIn; rw [hC] <;> rfl
  refine Att.call_fn (binds := [("self", .ref x), ("what", v), ("at", u)]) X hlim ho hcd hroom (BindsTo.of_eq (by first | rfl | with_unfolding_all rfl)) (by first | rfl | decide | with_unfolding_all rfl) (fun s₁ IC => ?_) rfl rfl rfl
  obtain ⟨h₁, tk₁, rfl⟩ := IC.toInCall.same
  have k : ∀ b o, s.heap.get? b = some o → h₁.get? b = some o := IC.toInCall.keep
  have hn := IC.toInCall.ns
  have hxL : s.heap.objs.size ≠ x := Nat.ne_of_gt (Heap.lt_size hx)
  have X₁ : K.In h₁ := X.keeps k
  have hx₁ := k _ _ hx
  -- self.by = by
  show wpAny _ _ (execs _ _) _ _ _
  refine wpAny_execs_cons (plainObj_wpAny_Assign_Attribute ?_)
  refine ldC (v := v) hn (by first | rfl | with_unfolding_all rfl | kernel_rfl) (ldC (v := .ref x) hn (by first | rfl | with_unfolding_all rfl | kernel_rfl) ?_)
  refine set_plain X₁ (ox := excO C t0) (od := none) ⟨hx₁, rfl, rfl, trivial⟩ T.sa ?_
  refine exc_osa X₁ hx₁ hcl (show refsVE (.ref C :: bm) = true from hbm) rfl T.noN (fun h₃ tk₃ dx k₃ dn dne hx₃ hn₃ => ?_)
  have z : s.heap.objs.size < h₁.objs.size := hn.lt
  have X₃ : K.In h₃ := kept_but X₁ hnx k₃
  have hn' := hn.at fun o q => k₃ _ o hxL q
  show wpAny _ _ (execs _ _) _ _ _
  refine wpAny_execs_cons (plainObj_wpAny_Assign_Attribute ?_)
  refine ldC (v := u) hn' (by first | rfl | with_unfolding_all rfl | kernel_rfl) (ldC (v := .ref x) hn' (by first | rfl | with_unfolding_all rfl | kernel_rfl) ?_)
  have hw : Within (fun y => if y = ("what" : Str) then some v else none) ["what"] := fun y hy => by
    by_cases c : y = ("what" : Str)
    · rw [c]; exact List.mem_singleton.mpr rfl
    · exact absurd (if_neg c) hy
  obtain ⟨oD, _, _, hoD, _, _⟩ := hn₃.count hw
  refine set_plain X₃ (ox := { cls := .ref C, dict := some dx, data := .fields #[.ref t0, .none, .none, .none, .bool false, .none] }) (od := some oD) ⟨hx₃, rfl, rfl, hoD⟩ T.sa ?_
  refine PySem.OEX.osa_old X₃ hx₃ hn₃ hw (by decide) hcl (show refsVE (.ref C :: bm) = true from hbm) rfl T.noM (fun h₄ tk₄ k₄ hn₄ => ?_)
  show wpAny _ _ (execs _ _) _ _ _
  have db : h₁.objs.size ≤ dx := dn
  exact wpAny_execs_nil (hq h₄ tk₄ dx ⟨fun b o hb e => k₄ b o (Nat.ne_of_lt (Nat.lt_of_lt_of_le (Heap.lt_size (k b o e)) db)) (k₃ b o hb (k b o e)), k₄ x _ dne.symm hx₃, Nat.le_of_lt (Nat.lt_of_lt_of_le z dn), dne, hn₄⟩)
theorem low_made (T : LowTxt K mg C fI) {v u : Value} (X : K.In s.heap) (hlim : s.heap.NoLimit) (hroom : A.depth + 1 < recursionLimit)
    (hq : ∀ h' tk e d, OwnMade s.heap h' e C d v u → R (.ok (.ret (.ref e))) { s with heap := h', toks := tk }) :
    codeAny (model prog w) A (.call (.ref C) ⟨[v, u], []⟩) R s := by
  obtain ⟨nm, q, N, bs, bm, sn, sub, ab, col, dd, k0, k1, k2, k3, k5, hC, hbm⟩ := T.cls
  obtain ⟨hp, g, dr, tk, os⟩ := s
  have k : ∀ b o, hp.get? b = some o → ((hp.push (kdv_tup [v, u])).push (excO C hp.objs.size)).get? b = some o := fun b o e => Heap.get?_push_of_some _ (Heap.get?_push_of_some _ e)
  have hget : ((hp.push (kdv_tup [v, u])).push (excO C hp.objs.size)).get? (hp.objs.size + 1) = some (excO C hp.objs.size) := by heap_get
  have hnx : K.lookup (hp.objs.size + 1) = none := by
    cases e : K.lookup (hp.objs.size + 1) with
    | none => rfl
    | some o =>
      have z : hp.get? (hp.objs.size + 1) = some o := X _ _ e
      exact absurd (Nat.lt_of_succ_lt (Heap.lt_size z)) (Nat.lt_irrefl _)
  refine call_own F.excBase_ValueError (fun X => refsVE_contains X bm hbm) (X _ _ hC) (looks_findIn X T.iC) (fun self => bind_fn X self T.tC) (one_size v u) ?_
  refine low_init (s := ⟨(hp.push (kdv_tup [v, u])).push (excO C hp.objs.size), g, dr, tk, os⟩) T (X.keeps k) (hlim.keeps k) hget hnx ?_ fun h' tk' dx ⟨k', hx, dn, dne, hns⟩ => ?_
  · show A.depth + 1 < recursionLimit
    exact hroom
  · have old : ∀ b o, hp.get? b = some o → h'.get? b = some o := fun b o e => k' b o (Nat.ne_of_lt (Nat.lt_succ_of_lt (Heap.lt_size e))) (k b o e)
    have z : hp.objs.size + 1 + 1 ≤ dx := by
      first
        | (simpa only [Heap.size_push] using dn)
        | exact dn
        | (have q := dn; rw [Heap.size_push, Heap.size_push] at q; exact q)
    exact ⟨rfl, hq h' tk' (hp.objs.size + 1) dx ⟨old, Nat.le_succ _, ⟨_, _, hx, rfl, rfl, rfl, rfl, by show 4 < 6; decide⟩, Nat.le_trans (Nat.le_trans (Nat.le_succ _) (Nat.le_succ _)) z, dne, hns⟩⟩
end
end LowV
end PySem
namespace L2
open PySem PySem.Spec PyProof.Rows
theorem relO_lowV {v y : V} {v' y' : Value} (r : RelV v v') (r2 : RelV y y') (f : Str) : RelO (List.lookup f [(("at" : Str), y), (("what" : Str), v)]) (if f = "at" then some y' else if f = "what" then some v' else none) :=
  relO_put (f := "at") (fs := [(("what" : Str), v)]) (mA := fun f => if f = "what" then some v' else none) r2 (fun g => relO_put (f := "what") (fs := []) (mA := fun _ => none) r (fun _ => True.intro) g) f
section
variable {X : Cx} {C fI : Addr}
/-- Low(e) -/
def tMkLowV (C : Addr) (ta : TA) : St → Hp → XK → Prop := fun σ H Q => ta σ H fun vs H1 => ∃ v y, vs = [v, y] ∧ ∀ d, H1 d = none → Q (.ref C) (some d) (upd H1 d (.xd [(("at" : Str), y), (("what" : Str), v)]))
theorem pmkS_lowV {a b : Expr} {ta : TA} {p pos : Pos} {k : Nat} (T : PySem.LowV.LowTxt X.K X.mg C fI) (hr : Room k X.A) (ha : PA X [a, b] ta) (hg : Gl X "BadLevels" := by rfl)
    (he : starEach (a :: [b]) X.env = (false, eval a X.env) :: starEach [b] X.env := by rfl) (hpl : (backTo pos (starEach [b] X.env)).any (·.1) = false := by rfl) :
    PMkS X (.Call (.Name "BadLevels" p) [a, b] [] pos) (tMkLowV C ta) := by
  intro pins s σ H Q I h
  refine wpAny_Call_Name_kw (ld_glob I hg T.gC ?_)
  refine PySem.W.callWith_K (h₀ := X.base) I.ok.mod.kin T.kC (thn (ha.run pos pins s σ H _ I h) fun us s1 hh => ?_) he hpl
  obtain ⟨vs, H1, I1, r1, v, y, ev, q1⟩ := hh
  subst ev
  refine ⟨I1.kIn, ?_⟩
  cases r1 with
  | cons rv rn =>
    rename_i v' us'
    cases rn with
    | cons ry rn =>
    rename_i y' us'
    cases rn
    show wpAny _ _ (call (.ref C) [v', y']) _ _ _
    have hlim := I1.nolimit
    obtain ⟨hp, g, dr, tk, os⟩ := s1
    refine wpAny_call (PySem.LowV.low_made T I1.kIn hlim (by have := hr.dp; omega) fun h' tk' e d M => ?_)
    obtain ⟨oe, fv, hoe, hc, hd, hdat, h1, hz4⟩ := M.obj
    have hns := M.ns
    obtain ⟨G', g1, g2⟩ := restrict h' fun b => decide (b ≠ e)
    have gk : ∀ b, b ≠ e → G'.get? b = h'.get? b := fun b hb => g1 b (decide_eq_true hb)
    have ge : G'.get? e = none := g2 e (by simp)
    have old : ∀ b o, hp.get? b = some o → G'.get? b = some o := fun b o q => (gk b (Nat.ne_of_lt (Nat.lt_of_lt_of_le (Heap.lt_size q) M.new))).trans (M.keep b o q)
    have ob : ObjOk X.prog X.w (upd H1 d (.xd [(("at" : Str), y), (("what" : Str), v)])) G' d (.xd [(("at" : Str), y), (("what" : Str), v)]) :=
      ⟨_, hns.at (fun o q => (gk d M.dne).trans q), fun f => relO_lowV rv ry f⟩
    have J : Inv X pins σ (upd H1 d (.xd [(("at" : Str), y), (("what" : Str), v)])) ⟨G', g, dr, tk', os⟩ := I1.laid (t' := tk') old M.dbig ob
    show MkP X pins σ Q (.ref e) ⟨h', g, dr, tk', os⟩ ∧ L2H.Six (.ref e) ⟨h', g, dr, tk', os⟩
    refine ⟨⟨e, oe, fv, ⟨G', g, dr, tk', os⟩, _, .ref C, some d, rfl, J, fun b o q => ?_, ge, hoe, ⟨hc, hd⟩, hdat, h1, ?_, rfl, I1.bare, raises_own T.exC T.tyC, q1 d (I1.hok.fresh M.dbig)⟩, fun a2 o2 vs2 ea hg2 hd2 => ?_⟩
    · by_cases hb : b = e
      · have q' : G'.get? b = some o := q
        rw [hb, ge] at q'; cases q'
      · exact (gk b hb).symm.trans q
    · rw [upd_ne (Ne.symm M.dne)]
      exact I1.hok.fresh M.new
    · cases ea
      have hg2 : h'.get? e = some o2 := hg2
      rw [hoe] at hg2
      cases hg2
      rw [hdat] at hd2
      cases hd2
      exact hz4
theorem pmk_lowV {a b : Expr} {ta : TA} {p pos : Pos} {k : Nat} (T : PySem.LowV.LowTxt X.K X.mg C fI) (hr : Room k X.A) (ha : PA X [a, b] ta) (hg : Gl X "BadLevels" := by rfl)
    (he : starEach (a :: [b]) X.env = (false, eval a X.env) :: starEach [b] X.env := by rfl) (hpl : (backTo pos (starEach [b] X.env)).any (·.1) = false := by rfl) :
    PMk X (.Call (.Name "BadLevels" p) [a, b] [] pos) (tMkLowV C ta) := (pmkS_lowV T hr ha hg he hpl).pmk
/-- raise Low(e) -/
def tRaiseLowV (C : Addr) (W : WX) (ta : TA) : TS := fun _ σ H => tMkLowV C ta σ H fun cls d H' => W cls d σ H'
theorem ps_raiseLowV {a b : Expr} {ta : TA} {W : WX} {p pos pos2 : Pos} {k : Nat} (hc : X.calm = true) (T : PySem.LowV.LowTxt X.K X.mg C fI) (hr : Room k X.A) (tk : Takes X W) (ha : PA X [a, b] ta) (hg : Gl X "BadLevels" := by rfl)
    (he : starEach (a :: [b]) X.env = (false, eval a X.env) :: starEach [b] X.env := by rfl) (hpl : (backTo pos (starEach [b] X.env)).any (·.1) = false := by rfl) :
    PS X (.Raise (some (.Call (.Name "BadLevels" p) [a, b] [] pos)) none pos2) (tRaiseLowV C W ta) := ps_raise hc tk (pmk_lowV T hr ha hg he hpl)
/-- low.by, low the exception that the suite holds (at a; its class cls, its dict d) -/
def tByLowVa (C : Addr) (a : Addr) (cls : Value) (d : Option Addr) (te : TE) : TE := fun σ H Q => te σ H fun x H1 => x = .ref a ∧ cls = .ref C ∧ ∃ (dd : Addr) (fs : List (Str × V)) (v : V), d = some dd ∧ H1 dd = some (.xd fs) ∧ List.lookup ("what" : Str) fs = some v ∧ Q v H1
theorem pe_byLowVa {a : Addr} {oe : Obj} {cls : Value} {d : Option Addr} {pn : List (Addr × Obj)} {e : Expr} {te : TE} {pos : Pos} (T : PySem.LowV.LowTxt X.K X.mg C fI) (hz : Zc cls d oe) (hf : ∃ vs, oe.data = .fields vs) (he : PE (X.suite a ((a, oe) :: pn)) e te)
    (hb : attributeBase e "what" X.env (eval e X.env) = eval e X.env := by rfl) :
    PE (X.suite a ((a, oe) :: pn)) (.Attribute e "what" pos) (tByLowVa C a cls d te) := by
  refine ⟨fun pins s σ H Q I h => ?_⟩
  refine attr_of hb (thn (he.run pins s σ H _ I h) fun u s1 hh => ?_)
  obtain ⟨x, H1, I1, rx, ex, ec, dd, fs, v, ed, ea, l, q⟩ := hh
  subst ex
  obtain rfl : u = Value.ref a := rx
  subst ec
  subst ed
  obtain ⟨ha, _⟩ := I1.pin (a, oe) (List.mem_append_left _ List.mem_cons_self)
  obtain ⟨vs, hd⟩ := hf
  have hx : ObjOk X.prog X.w H1 s1.heap dd (.xd fs) := I1.hok dd _ ea
  obtain ⟨mA, hns, hr⟩ := hx
  obtain ⟨od, ho, hl⟩ := lookIn_ns hns
  obtain ⟨u, hu, ru⟩ := RelO.some_of (v := v) (o := mA "what") (by rw [← l]; exact hr "what")
  have J : PySem.W.InstAt s1.heap a oe C (some od) := ⟨ha, hz.1, by unfold PySem.W.notCls; rw [hd] <;> rfl, by rw [hz.2]; exact ho⟩
  exact HandSPX.exc_get I1.kIn J T.ga T.gg T.exC (PySem.W.findObj_own T.hdC T.noN rfl (by rw [hl, hu])) (handed_of ru) ⟨v, H1, I1.tok _, ru, q⟩
/-- low.by, low the exception that the suite holds (at a; its class cls, its dict d) -/
def tByLowVb (C : Addr) (a : Addr) (cls : Value) (d : Option Addr) (te : TE) : TE := fun σ H Q => te σ H fun x H1 => x = .ref a ∧ cls = .ref C ∧ ∃ (dd : Addr) (fs : List (Str × V)) (v : V), d = some dd ∧ H1 dd = some (.xd fs) ∧ List.lookup ("at" : Str) fs = some v ∧ Q v H1
theorem pe_byLowVb {a : Addr} {oe : Obj} {cls : Value} {d : Option Addr} {pn : List (Addr × Obj)} {e : Expr} {te : TE} {pos : Pos} (T : PySem.LowV.LowTxt X.K X.mg C fI) (hz : Zc cls d oe) (hf : ∃ vs, oe.data = .fields vs) (he : PE (X.suite a ((a, oe) :: pn)) e te)
    (hb : attributeBase e "at" X.env (eval e X.env) = eval e X.env := by rfl) :
    PE (X.suite a ((a, oe) :: pn)) (.Attribute e "at" pos) (tByLowVb C a cls d te) := by
  refine ⟨fun pins s σ H Q I h => ?_⟩
  refine attr_of hb (thn (he.run pins s σ H _ I h) fun u s1 hh => ?_)
  obtain ⟨x, H1, I1, rx, ex, ec, dd, fs, v, ed, ea, l, q⟩ := hh
  subst ex
  obtain rfl : u = Value.ref a := rx
  subst ec
  subst ed
  obtain ⟨ha, _⟩ := I1.pin (a, oe) (List.mem_append_left _ List.mem_cons_self)
  obtain ⟨vs, hd⟩ := hf
  have hx : ObjOk X.prog X.w H1 s1.heap dd (.xd fs) := I1.hok dd _ ea
  obtain ⟨mA, hns, hr⟩ := hx
  obtain ⟨od, ho, hl⟩ := lookIn_ns hns
  obtain ⟨u, hu, ru⟩ := RelO.some_of (v := v) (o := mA "at") (by rw [← l]; exact hr "at")
  have J : PySem.W.InstAt s1.heap a oe C (some od) := ⟨ha, hz.1, by unfold PySem.W.notCls; rw [hd] <;> rfl, by rw [hz.2]; exact ho⟩
  exact HandSPX.exc_get I1.kIn J T.ga T.gg T.exC (PySem.W.findObj_own T.hdC T.noM rfl (by rw [hl, hu])) (handed_of ru) ⟨v, H1, I1.tok _, ru, q⟩
end
end L2


/-! Least lots of faults of a ring: any lot that silences has one or two that do. -/
namespace Lo
open PySem L2 TL Rm
def sil (l : List Bool) (n : Nat) (fs : List Ft) : Bool := decide ((heardL l (opn l fs)).length < n)
theorem opn_sub {l : List Bool} {fs gs : List Ft} (h : ∀ f ∈ fs, f ∈ gs) (k : Nat) (o : opn l gs k = true) : opn l fs k = true := by
  unfold opn at *
  exact List.all_eq_true.mpr fun f m => List.all_eq_true.mp o f (h f m)
theorem heard_le {l : List Bool} {op op2 : Nat → Bool} (h : ∀ j, (pL l op j || pR l op j) = true → (pL l op2 j || pR l op2 j) = true) : (heardL l op).length ≤ (heardL l op2).length := by
  unfold heardL
  induction List.range (l.count true) with
  | nil => exact Nat.le_refl _
  | cons j r ih =>
    rw [List.filter_cons, List.filter_cons]
    by_cases c : (pL l op j || pR l op j) = true
    · rw [if_pos c, if_pos (h j c)]
      simpa using ih
    · rw [if_neg c]
      split
      · exact Nat.le_succ_of_le ih
      · exact ih
theorem sil_mono {l : List Bool} {n : Nat} {fs gs : List Ft} (h : ∀ f ∈ fs, f ∈ gs) (s : sil l n fs = true) : sil l n gs = true := by
  unfold sil at *
  have a := of_decide_eq_true s
  refine decide_eq_true (Nat.lt_of_le_of_lt (heard_le fun j z => ?_) a)
  rcases Bool.or_eq_true_iff.mp z with z | z
  · exact Bool.or_eq_true_iff.mpr (.inl (List.all_eq_true.mpr fun x mx => opn_sub h x (List.all_eq_true.mp z x mx)))
  · exact Bool.or_eq_true_iff.mpr (.inr (List.all_eq_true.mpr fun x mx => opn_sub h x (List.all_eq_true.mp z x mx)))
theorem heard_nil (l : List Bool) : heardL l (opn l []) = List.range (l.count true) := by
  unfold heardL
  refine List.filter_eq_self.mpr fun j _ => Bool.or_eq_true_iff.mpr (.inl (List.all_eq_true.mpr fun _ _ => rfl))
theorem sil_nil {l : List Bool} {n : Nat} (h : n ≤ l.count true) : sil l n [] = false := by
  unfold sil
  rw [heard_nil, List.length_range]
  exact decide_eq_false (by omega)
/-- the least and the greatest closed stretch -/
theorem least {p : Nat → Bool} : ∀ n, (∃ k, k ≤ n ∧ p k = false) → ∃ i, i ≤ n ∧ p i = false ∧ ∀ k, k < i → p k = true
  | 0, ⟨k, hk, h⟩ => ⟨0, Nat.le_refl _, by rw [← Nat.le_zero.mp hk]; exact h, fun k l => absurd l (Nat.not_lt_zero k)⟩
  | n + 1, ⟨k, hk, h⟩ => by
    by_cases c : ∃ k, k ≤ n ∧ p k = false
    · obtain ⟨i, a, b, d⟩ := least n c
      exact ⟨i, by omega, b, d⟩
    · have e : ∀ k, k ≤ n → p k = true := fun k hk => by
        cases q : p k with
        | true => rfl
        | false => exact absurd ⟨k, hk, q⟩ c
      have : k = n + 1 := by
        by_cases c2 : k ≤ n
        · rw [e k c2] at h; cases h
        · omega
      subst this
      exact ⟨n + 1, Nat.le_refl _, h, fun k l => e k (by omega)⟩
theorem great {p : Nat → Bool} : ∀ n, (∃ k, k ≤ n ∧ p k = false) → ∃ i, i ≤ n ∧ p i = false ∧ ∀ k, i < k → k ≤ n → p k = true
  | 0, ⟨k, hk, h⟩ => ⟨0, Nat.le_refl _, by rw [← Nat.le_zero.mp hk]; exact h, fun k l l2 => by omega⟩
  | n + 1, ⟨k, hk, h⟩ => by
    cases c : p (n + 1) with
    | false => exact ⟨n + 1, Nat.le_refl _, c, fun k l l2 => by omega⟩
    | true =>
      have hk' : k ≤ n := by
        by_cases c2 : k ≤ n
        · exact c2
        · have : k = n + 1 := by omega
          rw [this, c] at h
          cases h
      obtain ⟨i, a, b, d⟩ := great n ⟨k, hk', h⟩
      refine ⟨i, by omega, b, fun k l l2 => ?_⟩
      by_cases e : k ≤ n
      · exact d k l e
      · rw [show k = n + 1 by omega]
        exact c
theorem closer {l : List Bool} {fs : List Ft} {k : Nat} (h : opn l fs k = false) : ∃ f ∈ fs, ∀ gs : List Ft, f ∈ gs → opn l gs k = false := by
  unfold opn at h
  obtain ⟨f, m, e⟩ := List.all_eq_false.mp h
  refine ⟨f, m, fun gs mg => ?_⟩
  unfold opn
  exact List.all_eq_false.mpr ⟨f, mg, e⟩
theorem sil_two {l : List Bool} {n : Nat} {fs : List Ft} (hl : ∀ f ∈ fs, f.2 ≤ l.length) (ne : fs ≠ []) (s : sil l n fs = true) : ∃ f ∈ fs, ∃ g ∈ fs, sil l n [f, g] = true := by
  have ex : ∃ k, k ≤ l.length ∧ opn l fs k = false := by
    obtain ⟨f, r, rfl⟩ := List.exists_cons_of_ne_nil ne
    refine ⟨f.2, hl f List.mem_cons_self, ?_⟩
    unfold opn
    refine List.all_eq_false.mpr ⟨f, List.mem_cons_self, ?_⟩
    cases f.1 <;> simp
  obtain ⟨i, hi, ei, a⟩ := least _ ex
  obtain ⟨k, hk, ek, b⟩ := great _ ex
  obtain ⟨f, mf, cf⟩ := closer ei
  obtain ⟨g, mg, cg⟩ := closer ek
  refine ⟨f, mf, g, mg, ?_⟩
  have c1 := cf [f, g] List.mem_cons_self
  have c2 := cg [f, g] (List.mem_cons_of_mem _ List.mem_cons_self)
  unfold sil at *
  refine decide_eq_true (Nat.lt_of_le_of_lt (heard_le fun j z => ?_) (of_decide_eq_true s))
  rcases Bool.or_eq_true_iff.mp z with z | z
  · refine Bool.or_eq_true_iff.mpr (.inl (List.all_eq_true.mpr fun x mx => a x ?_))
    have mx := List.mem_range.mp mx
    by_cases q : i ≤ spo l j
    · have := List.all_eq_true.mp z i (List.mem_range.mpr (by omega))
      rw [c1] at this
      cases this
    · omega
  · refine Bool.or_eq_true_iff.mpr (.inr (List.all_eq_true.mpr fun x mx => ?_))
    have mx := List.mem_range'_1.mp mx
    by_cases q : spo l j + 1 ≤ k
    · have := List.all_eq_true.mp z k (List.mem_range'_1.mpr (by omega))
      rw [c2] at this
      cases this
    · exact b x (by omega) (by omega)
def allF (n : Nat) : List Ft := (List.range n).flatMap fun k => [(true, k), (false, k)]
theorem allF_mem {n : Nat} {f : Ft} : f ∈ allF n ↔ f.2 < n := by
  unfold allF
  rw [List.mem_flatMap]
  constructor
  · rintro ⟨k, mk, m⟩
    have := List.mem_range.mp mk
    rcases List.mem_cons.mp m with rfl | m
    · exact this
    · rw [List.mem_singleton.mp m]
      exact this
  · intro h
    refine ⟨f.2, List.mem_range.mpr h, ?_⟩
    obtain ⟨b, k⟩ := f
    cases b <;> simp
def singles (l : List Bool) (n : Nat) : List Ft := (allF (l.length + 1)).filter fun f => sil l n [f]
def others (l : List Bool) (n : Nat) : List Ft := (allF (l.length + 1)).filter fun f => !decide (f ∈ singles l n)
def prs (l : List Bool) (n : Nat) : List Ft → List (List Ft)
  | [] => []
  | f :: r => (r.filter fun g => sil l n [f, g]).map (fun g => [f, g]) ++ prs l n r
def lots (l : List Bool) (n : Nat) : List (List Ft) := (singles l n).map (fun f => [f]) ++ prs l n (others l n)
theorem prs_sil {l : List Bool} {n : Nat} : ∀ {os : List Ft} {lot : List Ft}, lot ∈ prs l n os → ∃ f g, lot = [f, g] ∧ f ∈ os ∧ g ∈ os ∧ sil l n [f, g] = true
  | f :: r, lot, m => by
    rcases List.mem_append.mp m with m | m
    · obtain ⟨g, mg, rfl⟩ := List.mem_map.mp m
      obtain ⟨m1, m2⟩ := List.mem_filter.mp mg
      exact ⟨f, g, rfl, List.mem_cons_self, List.mem_cons_of_mem _ m1, m2⟩
    · obtain ⟨f2, g, e, a, b, c⟩ := prs_sil m
      exact ⟨f2, g, e, List.mem_cons_of_mem _ a, List.mem_cons_of_mem _ b, c⟩
theorem prs_has {l : List Bool} {n : Nat} : ∀ {os : List Ft} {f g : Ft}, f ∈ os → g ∈ os → f ≠ g → sil l n [f, g] = true → [f, g] ∈ prs l n os ∨ [g, f] ∈ prs l n os
  | x :: r, f, g, mf, mg, ne, s => by
    have s2 : sil l n [g, f] = true := sil_mono (fun y m => by simp at m ⊢; rcases m with rfl | rfl <;> simp) s
    rcases List.mem_cons.mp mf with rfl | mf2
    · rcases List.mem_cons.mp mg with rfl | mg2
      · exact absurd rfl ne
      · exact .inl (List.mem_append.mpr (.inl (List.mem_map.mpr ⟨g, List.mem_filter.mpr ⟨mg2, s⟩, rfl⟩)))
    · rcases List.mem_cons.mp mg with rfl | mg2
      · exact .inr (List.mem_append.mpr (.inl (List.mem_map.mpr ⟨f, List.mem_filter.mpr ⟨mf2, s2⟩, rfl⟩)))
      · exact (prs_has mf2 mg2 ne s).imp (fun z => List.mem_append.mpr (.inr z)) fun z => List.mem_append.mpr (.inr z)
theorem lots_sil {l : List Bool} {n : Nat} {lot : List Ft} (m : lot ∈ lots l n) : sil l n lot = true := by
  rcases List.mem_append.mp m with m | m
  · obtain ⟨f, mf, rfl⟩ := List.mem_map.mp m
    exact (List.mem_filter.mp mf).2
  · obtain ⟨f, g, rfl, _, _, s⟩ := prs_sil m
    exact s
theorem lots_iff {l : List Bool} {n : Nat} {fs : List Ft} (hl : ∀ f ∈ fs, f.2 ≤ l.length) (hn : n ≤ l.count true) : sil l n fs = true ↔ ∃ lot ∈ lots l n, ∀ f ∈ lot, f ∈ fs := by
  constructor
  · intro s
    have ne : fs ≠ [] := fun e => by rw [e, sil_nil hn] at s; cases s
    obtain ⟨f, mf, g, mg, s2⟩ := sil_two hl ne s
    have af : f ∈ allF (l.length + 1) := allF_mem.mpr (by have := hl f mf; omega)
    have ag : g ∈ allF (l.length + 1) := allF_mem.mpr (by have := hl g mg; omega)
    cases c1 : sil l n [f] with
    | true => exact ⟨[f], List.mem_append.mpr (.inl (List.mem_map.mpr ⟨f, List.mem_filter.mpr ⟨af, c1⟩, rfl⟩)), fun x m => by rw [List.mem_singleton.mp m]; exact mf⟩
    | false =>
      cases c2 : sil l n [g] with
      | true => exact ⟨[g], List.mem_append.mpr (.inl (List.mem_map.mpr ⟨g, List.mem_filter.mpr ⟨ag, c2⟩, rfl⟩)), fun x m => by rw [List.mem_singleton.mp m]; exact mg⟩
      | false =>
        have of : f ∈ others l n := List.mem_filter.mpr ⟨af, by rw [decide_eq_false fun z => by rw [(List.mem_filter.mp z).2] at c1; cases c1]; rfl⟩
        have og : g ∈ others l n := List.mem_filter.mpr ⟨ag, by rw [decide_eq_false fun z => by rw [(List.mem_filter.mp z).2] at c2; cases c2]; rfl⟩
        have ne2 : f ≠ g := fun e => by
          subst e
          rw [sil_mono (fs := [f, f]) (gs := [f]) (fun y m => by simpa using m) s2] at c1
          cases c1
        rcases prs_has of og ne2 s2 with z | z
        · exact ⟨_, List.mem_append.mpr (.inr z), fun x m => by
            rcases List.mem_cons.mp m with rfl | m
            · exact mf
            · rw [List.mem_singleton.mp m]; exact mg⟩
        · exact ⟨_, List.mem_append.mpr (.inr z), fun x m => by
            rcases List.mem_cons.mp m with rfl | m
            · exact mg
            · rw [List.mem_singleton.mp m]; exact mf⟩
  · rintro ⟨lot, m, h⟩
    exact sil_mono h (lots_sil m)
end Lo

namespace L2
open PySem PySem.Spec PyProof.Rows
/-- o.m() by a positional promise -/
theorem pe_methR0 {X : Cx} {CX : CXT} {k : Nat} {C f : Addr} {m : Str} {sp : Sp} {E : XK} {o : Expr} {ta : TE} {apos pos : Pos} {pl : Sem Bool} (he : PE X o ta) (c : Cls X.K C) (hm : Meth X.K C m f)
    (F : FnR X.prog X.w X.K X.mg X.base CX k f sp) (hr : Room k X.A) (hx : Passes CX X E)
    (ht : eval (.Call (.Attribute o m apos) [] [] pos) X.env = (do
      let ov ← eval o X.env
      standAt apos.atName
      let (f, first) ← holding [ov] (getMethod ov m pl)
      callWith pos f first (backTo pos (starEach [] X.env)) (backToKw pos (keywordEach [] X.env))) := by rfl) :
    PE X (.Call (.Attribute o m apos) [] [] pos) (tMethR C m sp E ta tNil) := by
  refine ⟨fun pins s σ H Q I h => ?_⟩
  refine PySem.W.methodCall_KW (pl := pl) (thn (he.run pins s σ H _ I h) fun u s1 ⟨x, H1, I1, rx, a, dx, fs, ex, ea, l, q⟩ => ?_) ht
  subst ex
  obtain rfl : u = Value.ref a := rx
  refine getmeth_ok I1 ea c hm l ?_
  exact PySem.W.callWith_K0 (first := [.ref a]) I1.kIn hm.kp (wpAny_call (run_fnR (us := [.ref a]) (vs := [.ref a]) F hr hx I1 (.cons rfl .nil) q))
end L2

/-! A method of an own class by a positional promise (a star parameter), one that may raise. -/
namespace MR
open PySem PySem.Spec PyProof.Rows L2
section
variable {X : Cx} {pins : List (Addr × Obj)} {σ : L2.St} {H : Hp} {s : Shared}
theorem run_fnRS {CX : CXT} {k : Nat} {f : Addr} {sp : Sp} {E : XK} {Q : VK} {us : List Value} {vs : List V} (F : FnR X.prog X.w X.K X.mg X.base CX k f sp) (hr : Room k X.A) (hx : PassesAt CX X σ E) (I : Inv X pins σ H s) (r : Vals vs us) (h : sp vs H Q E) :
    codeAny (model X.prog X.w) X.A (.call (.ref f) ⟨us, []⟩) (fun r s' => match r with | .ok (.ret v) => EP X pins σ Q v s' | .ok _ => False | .error e => X.xe e s') s := by
  refine codeAny_mono (F X.A X.stack s H us vs Q E hr I.env0 r h) fun r s' hq => ?_
  cases r with
  | error e => exact hx pins H s e s' I hq
  | ok fl =>
    cases fl with
    | ret u => exact I.after hq
    | next => exact False.elim hq
    | brk => exact False.elim hq
    | cont => exact False.elim hq
end
/-- o.m(e, ..) by a positional promise, what it raises told of each state -/
def tMethRS (C : Addr) (m : Str) (sp : Sp) (E : L2.St → XK) (ta : TE) (t : TA) : TE := fun σ H Q => ta σ H fun x H1 => ∃ a dx fs, x = .ref a ∧ H1 a = some (.ins C dx fs) ∧ fs.lookup m = none ∧ t σ H1 fun vs H2 => sp (x :: vs) H2 Q (E σ)
theorem pe_methRS {X : Cx} {CX : CXT} {k : Nat} {C f : Addr} {m : Str} {sp : Sp} {E : L2.St → XK} {o e : Expr} {es : List Expr} {ta : TE} {t : TA} {apos pos : Pos} {pl : Sem Bool} (he : PE X o ta) (c : Cls X.K C) (hm : Meth X.K C m f)
    (F : FnR X.prog X.w X.K X.mg X.base CX k f sp) (hr : Room k X.A) (hx : ∀ σ, PassesAt CX X σ (E σ)) (ha : PA X (e :: es) t)
    (hst : starEach (e :: es) X.env = (false, eval e X.env) :: starEach es X.env := by rfl) (hpl : (backTo pos (starEach es X.env)).any (·.1) = false := by rfl)
    (ht : eval (.Call (.Attribute o m apos) (e :: es) [] pos) X.env = (do
      let ov ← eval o X.env
      standAt apos.atName
      let (f, first) ← holding [ov] (getMethod ov m pl)
      callWith pos f first (backTo pos (starEach (e :: es) X.env)) (backToKw pos (keywordEach [] X.env))) := by rfl) :
    PE X (.Call (.Attribute o m apos) (e :: es) [] pos) (tMethRS C m sp E ta t) := by
  refine ⟨fun pins s σ H Q I h => ?_⟩
  refine PySem.W.methodCall_KW (pl := pl) (thn (he.run pins s σ H _ I h) fun u s1 ⟨x, H1, I1, rx, a, dx, fs, ex, ea, l, q⟩ => ?_) ht
  subst ex
  obtain rfl : u = Value.ref a := rx
  refine getmeth_ok I1 ea c hm l ?_
  refine PySem.W.callWith_K (first := [.ref a]) (h₀ := X.base) I.ok.mod.kin hm.kp (thn (ha.run pos pins s1 σ H1 _ I1 q) fun us s2 ⟨vs, H2, I2, r, q2⟩ => ⟨I2.kIn, ?_⟩) hst hpl
  exact wpAny_call (run_fnRS (us := .ref a :: us) (vs := .ref a :: vs) F hr (hx σ) I2 (.cons rfl r) q2)
end MR

/-! Data with lists and empty dicts that keep off some addresses; repr of such, == of a text and a dict, x in a tuple of texts, a list != []. -/
namespace De
open PySem PySem.Spec PyProof.Rows L2 Dv Wm PySem.SeqAt
mutual
inductive En (K : PySem.W.Frag) (N : Addr → Prop) (H : Hp) : V → PyData → Prop
  | non : En K N H .non .none
  | bl (b : Bool) : En K N H (.bl b) (.bool b)
  | int (i : Int) : En K N H (.int i) (.int i)
  | str (x : Str) : En K N H (.str x) (.str x)
  | tup {a : Addr} {xs : List V} {ds : List PyData} : SqT K H a xs → Ens K N H xs ds → En K N H (.ref a) (.tuple ds)
  | lst {a : Addr} {xs : List V} {ds : List PyData} : N a → H a = some (.lst xs) → Ens K N H xs ds → En K N H (.ref a) (.list ds)
  | emp {a : Addr} : N a → H a = some (.dK []) → En K N H (.ref a) (.dict [])
inductive Ens (K : PySem.W.Frag) (N : Addr → Prop) (H : Hp) : List V → List PyData → Prop
  | nil : Ens K N H [] []
  | cons {v : V} {vs : List V} {d : PyData} {ds : List PyData} : En K N H v d → Ens K N H vs ds → Ens K N H (v :: vs) (d :: ds)
end
section
variable {K : PySem.W.Frag} {N M : Addr → Prop} {H H' : Hp}
mutual
theorem En.kk (k : Kt K H H') (f : ∀ a o, N a → H a = some o → M a ∧ H' a = some o) : ∀ (d : PyData) (v : V), En K N H v d → En K M H' v d
  | .none, _, h => by cases h; exact .non
  | .bool _, _, h => by cases h; exact .bl _
  | .int _, _, h => by cases h; exact .int _
  | .str _, _, h => by cases h; exact .str _
  | .tuple ds, _, h => by
    cases h with
    | tup a b => exact .tup (k _ _ a) (Ens.kk k f ds _ b)
  | .list ds, _, h => by
    cases h with
    | lst n a b => exact .lst (f _ _ n a).1 (f _ _ n a).2 (Ens.kk k f ds _ b)
  | .dict _, _, h => by
    cases h with
    | emp n e => exact .emp (f _ _ n e).1 (f _ _ n e).2
theorem Ens.kk (k : Kt K H H') (f : ∀ a o, N a → H a = some o → M a ∧ H' a = some o) : ∀ (ds : List PyData) (vs : List V), Ens K N H vs ds → Ens K M H' vs ds
  | [], _, h => by cases h; exact .nil
  | d :: ds, _, h => by
    cases h with
    | cons a b => exact .cons (En.kk k f d _ a) (Ens.kk k f ds _ b)
end
mutual
theorem En.ofDt : ∀ (d : PyData) (v : V), Dt K H v d → En K N H v d
  | .int _, _, h => by cases h; exact .int _
  | .str _, _, h => by cases h; exact .str _
  | .tuple ds, _, h => by
    cases h with
    | tup a b => exact .tup a (Ens.ofDts ds _ b)
  | .none, _, h => by cases h
  | .bool _, _, h => by cases h
  | .list _, _, h => by cases h
  | .dict _, _, h => by cases h
theorem Ens.ofDts : ∀ (ds : List PyData) (vs : List V), Dts K H vs ds → Ens K N H vs ds
  | [], _, h => by cases h; exact .nil
  | d :: ds, _, h => by
    cases h with
    | cons a b => exact .cons (En.ofDt d _ a) (Ens.ofDts ds _ b)
end
theorem En.ks {d : PyData} {v : V} (h : En K N H v d) (s : Same H H') : En K N H' v d := En.kk (Kt.same s) (fun _ _ n e => ⟨n, s _ _ e⟩) d v h
theorem Ens.ks {ds : List PyData} {vs : List V} (h : Ens K N H vs ds) (s : Same H H') : Ens K N H' vs ds := Ens.kk (Kt.same s) (fun _ _ n e => ⟨n, s _ _ e⟩) ds vs h
theorem Ens.len : ∀ {vs : List V} {ds : List PyData}, Ens K N H vs ds → vs.length = ds.length
  | _, [], h => by cases h; rfl
  | _, d :: ds, h => by
    cases h with
    | cons a b => rw [List.length_cons, List.length_cons, Ens.len b]
theorem Ens.at : ∀ {vs : List V} {ds : List PyData} {i : Nat} {v : V}, Ens K N H vs ds → vs[i]? = some v → ∃ d, ds[i]? = some d ∧ En K N H v d
  | _, [], _, _, h, e => by cases h; simp at e
  | _, d :: ds, i, v, h, e => by
    cases h with
    | cons a b =>
      cases i with
      | zero => cases e; exact ⟨d, rfl, a⟩
      | succ i => exact Ens.at (i := i) b (by simpa using e)
theorem Ens.take : ∀ {vs : List V} {ds : List PyData} (n : Nat), Ens K N H vs ds → Ens K N H (vs.take n) (ds.take n)
  | _, _, n, .nil => by rw [List.take_nil, List.take_nil]; exact .nil
  | _, _, 0, .cons a b => .nil
  | _, _, n + 1, .cons a b => .cons a (Ens.take n b)
theorem Ens.drop : ∀ {vs : List V} {ds : List PyData} (n : Nat), Ens K N H vs ds → Ens K N H (vs.drop n) (ds.drop n)
  | _, _, n, .nil => by rw [List.drop_nil, List.drop_nil]; exact .nil
  | _, _, 0, .cons a b => .cons a b
  | _, _, n + 1, .cons a b => Ens.drop n b
theorem Ens.app : ∀ {vs us : List V} {ds es : List PyData}, Ens K N H vs ds → Ens K N H us es → Ens K N H (vs ++ us) (ds ++ es)
  | _, _, _, _, .nil, h => h
  | _, _, _, _, .cons a b, h => .cons a (Ens.app b h)
theorem Ens.set {v : V} {d : PyData} (h : En K N H v d) : ∀ {vs : List V} {ds : List PyData} (k : Nat), Ens K N H vs ds → Ens K N H (vs.set k v) (ds.set k d)
  | _, _, _, .nil => .nil
  | _, _, 0, .cons a b => .cons h b
  | _, _, k + 1, .cons a b => .cons a (Ens.set h k b)
theorem Ens.snoc {vs : List V} {ds : List PyData} {v : V} {d : PyData} (h : Ens K N H vs ds) (g : En K N H v d) : Ens K N H (vs ++ [v]) (ds ++ [d]) := h.app (.cons g .nil)
theorem Ens.get : ∀ {vs : List V} {ds : List PyData} {i : Nat} {d : PyData}, Ens K N H vs ds → ds[i]? = some d → ∃ v, vs[i]? = some v ∧ En K N H v d
  | _, _, _, _, .nil, e => by simp at e
  | _, _, i, d, .cons (v := v) a b, e => by
    cases i with
    | zero => cases e; exact ⟨v, rfl, a⟩
    | succ i => exact Ens.get (i := i) b (by simpa using e)
theorem Ens.rep : ∀ (k : Nat) {vs : List V} {ds : List PyData}, Ens K N H vs ds → Ens K N H (List.replicate k vs).flatten (List.replicate k ds).flatten
  | 0, _, _, _ => .nil
  | k + 1, vs, ds, h => by
    rw [List.replicate_succ, List.replicate_succ, List.flatten_cons, List.flatten_cons]
    exact h.app (Ens.rep k h)
end
section
variable {X : Cx} {pins : List (Addr × Obj)} {σ : L2.St} {H : Hp} {s : Shared} {N : Addr → Prop}
mutual
theorem En.reads (I : Inv X pins σ H s) (hN : ∀ a, N a → a ≠ sysModules) : ∀ (d : PyData) (v : V) (u : Value), En X.K N H v d → RelV v u → ∃ as, Reads s.heap u d as ∧ sysModules ∉ as
  | .none, _, _, h, r => by cases h; cases r; exact ⟨_, .none, List.not_mem_nil⟩
  | .bool b, _, _, h, r => by cases h; cases r; exact ⟨_, .bool b, List.not_mem_nil⟩
  | .int i, _, _, h, r => by cases h; obtain ⟨t, rfl⟩ := r; exact ⟨_, .int i t, List.not_mem_nil⟩
  | .str x, _, _, h, r => by cases h; obtain ⟨t, rfl⟩ := r; exact ⟨_, .str x t, List.not_mem_nil⟩
  | .tuple ds, _, _, h, r => by
    cases h with
    | tup a b =>
      cases r
      obtain ⟨its, rv, ⟨o, ho, hc, n, hd⟩, _⟩ := I.tuple a
      obtain ⟨as, hr, hn⟩ := Ens.reads I hN ds _ its b rv
      exact ⟨as, .tuple ho hc hd hr, hn⟩
  | .list ds, _, _, h, r => by
    cases h with
    | @lst a _ _ na e b =>
      cases r
      obtain ⟨its, rv, ⟨o, n, ho, hc, _, hd⟩, _⟩ := I.list (SqL.of e)
      obtain ⟨as, hr, hn⟩ := Ens.reads I hN ds _ its b rv
      refine ⟨a :: as, .list ho hc hd hr, fun m => ?_⟩
      rcases List.mem_cons.mp m with z | z
      · exact hN a na z.symm
      · exact hn z
  | .dict _, _, _, h, r => by
    cases h with
    | @emp a na e =>
      cases r
      obtain ⟨_, _, vs, rel, o, es, ep, h1, h2, h3, _, pr, _⟩ := dk_of I.hok e
      cases rel
      generalize hes : es.toList = L at pr
      cases pr
      refine ⟨_, .dict (as := []) (bs := []) h1 h2.1 h3 (by rw [hes]; exact .nil) (by rw [hes]; exact .nil), fun m => ?_⟩
      rcases List.mem_cons.mp m with z | z
      · exact hN a na z.symm
      · simp at z
theorem Ens.reads (I : Inv X pins σ H s) (hN : ∀ a, N a → a ≠ sysModules) : ∀ (ds : List PyData) (vs : List V) (us : List Value), Ens X.K N H vs ds → Vals vs us → ∃ as, ReadsAll s.heap us ds as ∧ sysModules ∉ as
  | [], _, _, h, r => by cases h; cases r; exact ⟨_, .nil, List.not_mem_nil⟩
  | d :: ds, _, _, h, r => by
    cases h with
    | cons a b =>
      cases r with
      | cons ra rb =>
        obtain ⟨as, h1, n1⟩ := En.reads I hN d _ _ a ra
        obtain ⟨bs, h2, n2⟩ := Ens.reads I hN ds _ _ b rb
        exact ⟨as ++ bs, .cons h1 h2, fun m => (List.mem_append.mp m).elim n1 n2⟩
end
end
/-- repr of such -/
def rReprE (K : PySem.W.Frag) : List V → Hp → VK → Prop := fun xs H Q => ∃ (v : V) (d : PyData) (N : Addr → Prop), xs = [v] ∧ (∀ b, N b → b ≠ sysModules) ∧ En K N H v d ∧ d.showable = true ∧ d.depth ≤ 60 ∧ d.shown.length ≤ sizeLine ∧ Q (.str d.shown) H
theorem call_reprE {X : Cx} (hg : X.A.guards = some []) (hu : X.A.units + 64 < cLine) : CallR X (.builtin "repr") (rReprE X.K) := by
  intro pins s σ H xs us Q I r h
  obtain ⟨v, d, N, rfl, hN, hd, hs, hz, hl, q⟩ := h
  obtain ⟨u, rfl, ru⟩ := r.one
  obtain ⟨as, rd, hn⟩ := En.reads I hN d v u hd ru
  cases rd with
  | none => exact PySem.P.repr_of_none ⟨.str _, H, I.tok _, ⟨_, rfl⟩, q⟩
  | bool b => exact PySem.P.repr_of_bool ⟨.str _, H, I.tok _, ⟨_, rfl⟩, q⟩
  | int i t => exact PySem.P.repr_of_int (of_decide_eq_true hs) ⟨.str _, H, I.tok _, ⟨_, rfl⟩, q⟩
  | str z t => exact PySem.P.repr_of_str (hsz := hl) ⟨.str _, H, I.tok _, ⟨_, rfl⟩, q⟩
  | list h1 h2 h3 h4 => exact PySem.repr_of_reads' (.list h1 h2 h3 h4) hs (fun _ m => hn m) hg (by omega) (fun _ _ e => e) (fun g u tk k => ⟨.str _, H, I.kept (t' := tk) k, ⟨_, rfl⟩, q⟩) hl
  | tuple h1 h2 h3 h4 => exact PySem.repr_of_reads' (.tuple h1 h2 h3 h4) hs (fun _ m => hn m) hg (by omega) (fun _ _ e => e) (fun g u tk k => ⟨.str _, H, I.kept (t' := tk) k, ⟨_, rfl⟩, q⟩) hl
  | dict h1 h2 h3 h4 h5 => exact PySem.repr_of_reads' (.dict h1 h2 h3 h4 h5) hs (fun _ m => hn m) hg (by omega) (fun _ _ e => e) (fun g u tk k => ⟨.str _, H, I.kept (t' := tk) k, ⟨_, rfl⟩, q⟩) hl
end De
namespace De
open PySem PySem.SeqAt MeetsSeq
section
variable {A : Around} {s : Shared}
theorem str_declines (b : Str) (u : Tok) (l : Addr) (es : Array DictEntry) (nn : Nat) (dd : Option Addr) (sl : Array (Option Value)) :
    Meets (Builtin.«str.__eq__» ⟨[.str b u, .ref l], []⟩) (fun _ R s => s.heap.get? l = some { cls := .type "dict", dict := dd, data := .dict es nn, slots := sl } ∧ R (.ok (.ret .notImplemented)) s) :=
  .of_wp fun prog w A R s h => by obtain ⟨hp, g, d, tk, os⟩ := s; obtain ⟨hl, h⟩ := h; wp_walk using wpAny_loadPart' hl, wpAny_load hl; exact ⟨_, rfl, h⟩
theorem dict_declines (b : Str) (u : Tok) (l : Addr) (es : Array DictEntry) (nn : Nat) (dd : Option Addr) (sl : Array (Option Value)) :
    Meets (Builtin.«dict.__eq__» ⟨[.ref l, .str b u], []⟩) (fun _ R s => s.heap.get? l = some { cls := .type "dict", dict := dd, data := .dict es nn, slots := sl } ∧ R (.ok (.ret .notImplemented)) s) :=
  .of_wp fun prog w A R s h => by obtain ⟨hp, g, d, tk, os⟩ := s; obtain ⟨hl, h⟩ := h; have f1 := F.sub_str_dict; wp_walk using wpAny_loadPart' hl; exact ⟨_, rfl, h⟩
theorem rc_str_dict {l : Addr} {o : Obj} {es : Array DictEntry} {nn : Nat} (b : Str) (u : Tok) (ho : s.heap.get? l = some o) (hc : o.cls = .type "dict") (hd : o.data = .dict es nn) (hu : A.units < cLine) : RcAt A s (.str b u) (.ref l) false := fun prog w E Q h => by
  obtain ⟨cls, dd, data, sl⟩ := o
  simp only at hc hd
  subst hc hd
  exact rc_eq_decline_or (k := false) (typeIs_str s b u) ⟨_, ho, rfl⟩ (by decide) F.sub_dict_str F.slot_str_eq F.slot_dict_eq_refl
    (fun _ hq => call_meets F.slot_str_eq (typeIs_str s b u) F.entry_str_eq (F.args_str_eq_2 _ _) (str_declines b u l es nn dd sl) ⟨ho, hq⟩)
    (fun _ hq => call_meets F.slot_dict_eq_refl ⟨_, ho, rfl⟩ F.entry_dict_eq (F.args_dict_eq_2 _ _) (dict_declines b u l es nn dd sl) ⟨ho, hq⟩)
    (fun _ hq => wpAny_of_eq (rfl : isSame (.str b u) (.ref l) = pure false) hq) (.inr hu) h
theorem eq_str_dict {l : Addr} {o : Obj} {es : Array DictEntry} {nn : Nat} (b : Str) (u : Tok) (ho : s.heap.get? l = some o) (hc : o.cls = .type "dict") (hd : o.data = .dict es nn) (hu : A.units < cLine) : EqAt A s (.str b u) (.ref l) false := fun prog w E Q h => by
  unfold eqBool
  refine wpAny_holding ?_
  refine wpAny_ite_split (fun hab => absurd (eq_of_beq hab) nofun) (fun _ => ?_)
  exact wpAny_bind (rc_str_dict b u ho hc hd hu prog w E _ (wpAny_truthy_bool h))
end
end De
namespace De
open PySem PySem.Spec PyProof.Rows L2 Dv Wm PySem.SeqAt
/-- a text against any such datum -/
theorem eq_str_any {X : Cx} {pins : List (Addr × Obj)} {σ : L2.St} {H : Hp} {s : Shared} {N : Addr → Prop} {A : Around} (I : Inv X pins σ H s) (hN : ∀ a, N a → a ≠ sysModules) {d : PyData} {v : V} {u : Value} (h : En X.K N H v d) (r : RelV v u) (t : Str) (k : Tok) (hu : A.units < cLine) :
    EqAt A s (.str t k) u (PyData.eqv (.str t) d) := by
  obtain ⟨as, rd, _⟩ := En.reads I hN d v u h r
  cases rd with
  | none => exact EqAt.str_none t k
  | bool y => exact EqAt.str_bool t k y
  | int y u => exact EqAt.str_int t k y u
  | str y u => exact EqAt.str_str t k y u
  | list k1 k2 k3 k4 => exact EqAt.str_list t k ⟨_, k1, k2, _, k3⟩ hu
  | tuple k1 k2 k3 k4 => exact EqAt.str_tuple t k ⟨_, k1, k2, _, k3⟩ hu
  | dict k1 k2 k3 k4 k5 => exact eq_str_dict t k k1 k2 k3 hu
/-- x in (texts), x any such datum -/
def rInTx (K : PySem.W.Frag) : R2 := fun x y H Q => ∃ (d : PyData) (N : Addr → Prop) (q : Addr) (ts : List Str), (∀ a, N a → a ≠ sysModules) ∧ En K N H x d ∧ y = .ref q ∧ SqT K H q (ts.map V.str) ∧ Q (.bl (ts.any fun t => PyData.eqv (.str t) d)) H
theorem vals_str : ∀ {ts : List Str} {us : List Value}, Vals (ts.map V.str) us → ∀ y ∈ us, ∃ t k, y = Value.str t k
  | [], _, h, _, m => by cases h; cases m
  | t :: ts, _, h, y, m => by
    cases h with
    | cons a b =>
      rcases List.mem_cons.mp m with rfl | m
      · obtain ⟨k, e⟩ := a
        exact ⟨t, k, e⟩
      · exact vals_str b y m
def strB (d : PyData) : Value → Bool
  | .str t _ => PyData.eqv (.str t) d
  | _ => false
theorem any_str (d : PyData) : ∀ {ts : List Str} {us : List Value}, Vals (ts.map V.str) us → us.any (strB d) = ts.any fun t => PyData.eqv (.str t) d
  | [], _, h => by cases h; rfl
  | t :: ts, _, h => by
    cases h with
    | cons a b =>
      obtain ⟨k, e⟩ := a
      rw [List.any_cons, List.any_cons, any_str d b, e]
      rfl
theorem op_inTx {X : Cx} (hu : X.A.units + 65 < cLine) : OpR X (compareOp .In) (rInTx X.K) := by
  intro pins s σ H x y v u Q I rx ry h
  obtain ⟨d, N, q, ts, hN, hd, rfl, hq, k⟩ := h
  cases ry
  obtain ⟨its, rv, hl, _⟩ := I.tuple hq
  refine SeqAt.in_tupleAt (strB d) hl (fun y hy => ?_) ?_
  · obtain ⟨t, k, rfl⟩ := vals_str rv y (by simpa using hy)
    exact eq_str_any I hN hd rx t k (show X.A.units + 1 < cLine by omega)
  · have e : its.toArray.any (strB d) = ts.any fun t => PyData.eqv (.str t) d := by
      rw [← Array.any_toList]
      exact any_str d (by simpa using rv)
    rw [e]
    exact ⟨.bl _, H, I, rfl, k⟩
/-- xs != [] -/
def rNeNil (K : PySem.W.Frag) : R2 := fun x y H Q => ∃ (a b : Addr) (xs : List V), x = .ref a ∧ y = .ref b ∧ SqL K H a xs ∧ SqL K H b [] ∧ Q (.bl (!xs.isEmpty)) H
theorem op_neNil {X : Cx} (hu : X.A.units + 65 < cLine) : OpR X (compareOp .NotEq) (rNeNil X.K) := by
  intro pins s σ H x y v u Q I rx ry h
  obtain ⟨a, b, xs, rfl, rfl, ha, hb, k⟩ := h
  cases rx
  cases ry
  obtain ⟨its, rv, pl, _⟩ := I.list ha
  obtain ⟨jts, rw2, pl2, _⟩ := I.list hb
  cases rw2
  have hu2 : X.A.units < cLine := by omega
  show wpAny _ _ (richCompare .NotEq _ _) _ _ s
  cases rv with
  | nil => exact RcNeAt.lists (e := fun _ => true) pl.isList pl2.isList rfl hu2 (fun j h1 => absurd h1 (by simp)) _ _ _ _ ⟨.bl _, H, I, rfl, k⟩
  | cons r1 r2 => exact RcNeAt.lists_lengths pl.isList pl2.isList (by simp) hu2 _ _ _ _ ⟨.bl _, H, I, rfl, k⟩
end De

/-! A comprehension whose item may let an exception out of the def. -/
namespace Lr
open PySem PySem.Spec PyProof.Rows L2
section
variable {M : Model} {A : Around} {E : Value → Shared → Prop} {s : Shared} {env : Env}
/-- noting asks for the frame alone -/
theorem note_same {e : Value} {v u : Env} (h : v.frame = u.frame) : noteFrame e v = noteFrame e u := by
  unfold noteFrame PySem.frameOf
  rw [h]
/-- noted by the frame that we stand in -/
theorem sky_noted {outer : List Env} {L a : Addr} {Z : Obj → Prop} {B : Heap} {Q : Unit → Shared → Prop} (hZ : HandSPX.Steady Z) (hfr : A.frames = some (env :: outer)) (hf : env.frame = some L) (x : Sky B (env :: outer) a Z L s.heap)
    (k : ∀ h', HandSPX.HeldZ B (env :: outer) a Z L h' → s.heap.UpToSlots h' → Q () { s with heap := h' }) : wpAny M A (noteFrame (.ref a) env) Q E s := by
  rcases x with ⟨b1, b2, b3, oe, vs, q1, q2, q3, q4⟩ | q | q
  · exact HandSPX.look_newZ hZ hfr b3 hf q1 b1 b2 q3 q4 q2 k
  · exact HandSPX.looks_onZ hZ hfr hf q k
  · exact HandSPX.againZ hf q.2.2.2 (k s.heap q (Heap.UpToSlots.refl _))
/-- what the block's end asks, with the block's own environment told -/
def Post (M : Model) (A : Around) (E : Value → Shared → Prop) (Q : Value → Shared → Prop) (acc : Value) (ce : Env) (r : Result) (s' : Shared) : Prop :=
  ∃ m, s'.heap.Ns ce.locals m ∧ ∀ h', Heap.SameBut ce.locals s'.heap h' → match r with
    | .ok _ => Q acc { s' with heap := h' }
    | .error x => wpAny M A (PySem.passOn "comprehension.variables-let-go" x ce : Sem Value) (fun _ _ => False) E { s' with heap := h' }
theorem comp_in {e : Expr} {scope : Scope} {pos : Pos} {mk first : Sem Value} {g : Comprehension} {gs : List Comprehension} {cl : List (Str × Addr)} {Q : Value → Shared → Prop}
    (h1 : clausesOf e = g :: gs) (h2 : ∀ x, foldedSetIterable g.iter env x = pure x) (h3 : closureFor scope env = pure cl) (h4 : scope.kind = .function) (h5 : ∀ x ∈ scope.names, x.2 = .local → scope.names.lookup x.1 = some .local)
    (h : wpAny M A first (fun x s1 => wpAny M A (pyIter x) (fun it s2 => wpAny M A mk (fun acc s3 => wpAny M A (newFunctionEnv scope env.globals cl [] env.qual none .none (some env)) (fun ce s4 =>
      codeAny M A (.compStart e 0 it acc { ce with scope := relabel scope env }) (Post M A E Q acc { ce with scope := relabel scope env }) s4) E s3) E s2) E s1) E s) :
    wpAny M A (comprehension e scope env pos mk false first none) Q E s := by
  have up : ∀ {α : Type} {t : Sem α} {P P' : α → Shared → Prop} {z : Shared}, wpAny M A t P E z → (∀ a y, P a y → P' a y) → wpAny M A t P' E z := fun a b => wpAny_mono a b fun _ _ c => c
  unfold comprehension
  rw [h3, h1]
  refine wpAny_bind (up h fun x s1 k1 => ?_)
  refine wpAny_bind (wpAny_standAt ?_)
  refine wpAny_bind (wpAny_of_eq (h2 x) ?_)
  refine wpAny_bind (wpAny_holding (up k1 fun it s2 k2 => ?_))
  refine wpAny_standIf (wpAny_bind (up k2 fun acc s3 k3 => ?_))
  refine wpAny_bind (wpAny_pure (wpAny_bind (up k3 fun ce s4 k4 => ?_)))
  dsimp only
  have own : ∀ y ∈ (scope.names.filter fun x => (x.2 == .local || x.2 == .cell) && x.1 != (".0" : Str)).reverse, y.2 = .local → Env.kindOf { ce with scope := relabel scope env } y.1 = some .local :=
    fun y hy hl => lookup_relabel_local (h5 y (List.mem_filter.mp (List.mem_reverse.mp hy)).1 hl)
  refine wpAny_holding (wpAny_bind (wpAny_attempt (wpAny_holding (wpAny_run (codeAny_mono k4 fun r s' hr => ?_)))))
  obtain ⟨m, hn, go⟩ := hr
  cases r with
  | ok f => exact wpAny_bind (wpAny_holding (wpAny_comp_letGo (cenv := { ce with scope := relabel scope env }) h4 _ s' m own hn fun h' _ _ sb => wpAny_pure (go h' sb)))
  | error x => exact wpAny_bind (wpAny_holding (wpAny_comp_letGo (cenv := { ce with scope := relabel scope env }) h4 _ s' m own hn fun h' _ _ sb => wpAny_mono (go h' sb) (fun _ _ z => z.elim) fun _ _ z => z))
end
section
variable {X : Cx} {pins : List (Addr × Obj)} {σ : L2.St} {H : Hp} {s : Shared}
/-- what a comprehension's item lets out; C is the object of the block's own names -/
def Out (X : Cx) (W : WX) (C : Addr) (u : Value) (s' : Shared) : Prop :=
  ∃ (a : Addr) (B : Heap) (t : Shared) (σ : L2.St) (H : Hp) (cls : Value) (d : Option Addr), u = .ref a ∧ Inv X [] σ H t ∧ (∀ b o, t.heap.get? b = some o → b ∉ frs X.stack → B.get? b = some o) ∧ t.heap.UpToSlots s'.heap ∧
    Sky B X.stack a (Zc cls d) X.env.locals s'.heap ∧ H a = none ∧ s'.os = t.os ∧ AllBare s'.gens ∧ W cls d σ H ∧ H C = none ∧ ∃ m, s'.heap.Ns C m
/-- a block that has begun at s -/
def Began (X : Cx) (s : Shared) (H : Hp) (C : Addr) (fp : List Addr) : Prop := C = s.heap.objs.size ∧ ∃ (pins : List (Addr × Obj)) (σ : L2.St), Inv X pins σ H s ∧ ∀ b ∈ fp, FpOk X pins H b
theorem Began.back {C : Addr} {fp pl : List (Addr)} {xe : Value → Shared → Prop} {scope : Scope} {cl : List (Str × Addr)} {pn p6 : List (Addr × Obj)} {σ6 : L2.St} {H6 : Hp} {s6 : Shared} (bg : Began X s H C fp)
    (J : Inv ((X.blk s H scope (compEnvC scope cl C X.env) fp).tr pn xe) p6 σ6 H6 s6) : ∃ pins σ, Inv X pins σ H6 s6 := by
  obtain ⟨_, pins, σ, I, hf⟩ := bg
  exact ⟨pins, σ, I.call' (ch := fp) J.os J.base J.hok J.bare fun b hb => let z := hf b hb; ⟨z.2.2.2.1, z.2.1, z.2.2.2.2.1, z.2.2.2.2.2⟩⟩
theorem out_pass {W : WX} {C : Addr} {fp : List Addr} {scope : Scope} {cl : List (Str × Addr)} {pn : List (Addr × Obj)} (bg : Began X s H C fp) (σ6 : L2.St) :
    PassesAt (CX X.prog X.w) ((X.blk s H scope (compEnvC scope cl C X.env) fp).tr pn (Out X W C)) σ6 (fun cls d H' => ∀ τ : L2.St, τ.length = X.N.length → W cls d τ H') := by
  intro p6 H6 s6 e s' J c
  obtain ⟨pins, σ, I⟩ := bg.back (pl := []) J
  obtain ⟨hC, p0, σ0, I0, _⟩ := bg
  obtain ⟨m, hn, _⟩ := J.loc
  have hn : s6.heap.Ns C m := hn
  have nC : H6 C = none := J.free
  have nS : C ∉ frs X.stack := fun z => by
    obtain ⟨_, o, e, _⟩ := I0.stack.mem z
    have lt := Heap.lt_size e
    rw [hC] at lt
    exact absurd lt (Nat.lt_irrefl _)
  obtain ⟨a, B, H', cls, d, rfl, fl, hok, ub, na, os, ag, hE⟩ := c
  obtain ⟨o, es, ep, ho, hd⟩ := id hn
  have hn' : s'.heap.Ns C m := ⟨o, es, ep, fl.1 _ _ (ub.keep C o ho nC nS), hd⟩
  have c2 : CX X.prog X.w X.stack H6 s6 (fun cls d H' => H' C = none ∧ ∀ τ : L2.St, τ.length = X.N.length → W cls d τ H') (.ref a) s' := ⟨a, B, H', cls, d, rfl, fl, hok, ub, na, os, ag, ub.free C o ho nC, hE⟩
  obtain ⟨a', B', t, p', σ', H'', cls', d', ea, I', nb, up, sky, na', os', ag', w1, w2⟩ := XE.of_call (W := fun cls d _ H' => H' C = none ∧ ∀ τ : L2.St, τ.length = X.N.length → W cls d τ H') I (fun _ _ _ h => h) c2
  exact ⟨a', B', t, σ', H'', cls', d', ea, Inv.unpinned (pins := []) I', nb, up, sky, na', os', ag', w2 _ I'.len, w1, m, hn'⟩
theorem frames_but {C : Addr} {h h' B B' : Heap} (k : ∀ b, b ≠ C → h'.get? b = h.get? b) (n : ∀ b, B.get? b = none → B'.get? b = none) : ∀ {l : List Env}, C ∉ frs l → h.FunFrames B l → h'.FunFrames B' l
  | [], _, _ => True.intro
  | v :: l, hc, ⟨kd, ⟨L, o, e, a, b, c⟩, r⟩ => by
    have hL : L ≠ C := fun z => hc (by
      rw [← z]
      exact List.mem_filterMap.mpr ⟨v, List.mem_cons_self, e⟩)
    refine ⟨kd, ⟨L, o, e, n L a, (k L hL).trans b, c⟩, frames_but k n (fun z => hc ?_) r⟩
    obtain ⟨y, my, ey⟩ := List.mem_filterMap.mp z
    exact List.mem_filterMap.mpr ⟨y, List.mem_cons_of_mem _ my, ey⟩
/-- it is noted, the block's names are let go, it goes on in the def -/
theorem out_lands {W : WX} {C : Addr} {ce : Env} {acc : Value} {Q : Value → Shared → Prop} {u : Value} {s' : Shared} (tk : Takes X W) (hst : X.stack = X.env :: X.outer) (hfr : X.env.frame = some X.env.locals) (hcf : ce.frame = X.env.frame) (hcl : ce.locals = C)
    (c0 : C ∉ frs X.stack) (c1 : C ≠ X.env.locals) (c2 : C ∈ X.ex ∨ X.s_0.heap.objs.size ≤ C) (c3 : ∀ x c, X.env.cells.lookup x = some c → c ≠ C) (c4 : ∀ p ∈ X.pn, p.1 ≠ C) (o : Out X W C u s') :
    notedBy (model X.prog X.w) X.A ce (fun e s2 => Post (model X.prog X.w) X.A X.xe Q acc ce (.error e) s2) u s' := by
  obtain ⟨a, B, t, σ, H, cls, d, rfl, I, nb, up, sky, na, os, ag, w, nC, m, hn⟩ := o
  have hA : X.A.frames = some (X.env :: X.outer) := by rw [I.ok.frames, hst]
  rw [hst] at sky
  show wpAny _ _ (noteFrame (.ref a) ce) _ _ s'
  rw [note_same hcf]
  refine sky_noted Zc.steady hA hfr sky fun h1 held up1 => ?_
  have hn1 : h1.Ns C m := up1.ns hn
  refine ⟨m, by rw [hcl]; exact hn1, fun h2 sb => ?_⟩
  rw [hcl] at sb
  obtain ⟨B', r1, r2⟩ := restrict B fun b => decide (b ≠ C)
  obtain ⟨G, g1, g2⟩ := restrict t.heap fun b => decide (b ≠ C)
  obtain ⟨f1, f2, f3, oe, vs, T, oT, ts, he, hz, hd, hv, hnT, hTe, hT, hdT, h3⟩ := held
  obtain ⟨oC, es, ep, hoC, hdC, _⟩ := id hn1
  have aC : a ≠ C := fun z => by
    rw [z, hoC] at he
    cases he
    rw [hdC] at hd
    cases hd
  have TC : T ≠ C := fun z => by
    rw [z, hoC] at hT
    cases hT
    rw [hdC] at hdT
    cases hdT
  have same : ∀ b, b ≠ C → h2.get? b = h1.get? b := sb.2
  have fromB : ∀ b o, B'.get? b = some o → B.get? b = some o ∧ b ≠ C := fun b o e => by
    by_cases z : b = C
    · rw [r2 b (by simp [z])] at e
      cases e
    · exact ⟨(r1 b (by simp [z])).symm.trans e, z⟩
  have noB : ∀ b, B.get? b = none → B'.get? b = none := fun b e => by
    cases q : B'.get? b with
    | none => rfl
    | some o => rw [(fromB b o q).1] at e; cases e
  rw [hst] at c0
  show wpAny _ _ (PySem.passOn _ (.ref a) ce : Sem Value) _ _ _
  unfold PySem.passOn
  refine wpAny_bind (wpAny_field (o := oe) (by show h2.get? a = _; rw [same a aC]; exact he) hd hv ?_)
  rw [if_neg (by simp)]
  refine wpAny_bind (HandSPX.setFlight_anyZ (base := B') (l := X.env :: X.outer) (Z := Zc cls d) (fun b o e => by
    obtain ⟨e1, n⟩ := fromB b o e
    show h2.get? b = _
    rw [same b n]
    exact f1 b o e1) (frames_but same noB c0 f3) ⟨oe, vs, T, oT, ts, (same a aC).trans he, hz, hd, hv, noB T hnT, hTe, (same T TC).trans hT, hdT, h3⟩ fun h4 k1 k2 k3 k4 => ?_)
  refine wpAny_throw (tk _ _ ⟨a, B', { t with heap := G }, [], σ, H, cls, d, rfl, ?_, fun b o e hb => ?_, fun b o e nf => ?_, .inr (.inr ⟨k1, noB a f2, ?_, ?_⟩), na, os, ag, w⟩)
  · exact I.turned (t' := t.toks) (it := C) (fun b o hb e => (g1 b (by simp [hb])).trans e) nC c1 c2 c3 fun p hp => c4 p (by simpa using hp)
  · have e : G.get? b = some o := e
    by_cases z : b = C
    · rw [g2 b (by simp [z])] at e
      cases e
    · have e1 := (g1 b (by simp [z])).symm.trans e
      rw [r1 b (by simp [z])]
      exact nb b o e1 hb
  · have e : G.get? b = some o := e
    by_cases z : b = C
    · rw [g2 b (by simp [z])] at e
      cases e
    · have e1 := (g1 b (by simp [z])).symm.trans e
      obtain ⟨s1, q1⟩ := up b o e1 nf
      obtain ⟨s2, q2⟩ := up1 b _ q1 nf
      obtain ⟨s3, q3⟩ := k4 b _ ((same b z).trans q2) nf
      exact ⟨s3, q3⟩
  · rw [hst]
    exact k2
  · rw [hcf, hfr] at k3
    exact k3
/-- [elt for target in iter if ..], elt's exceptions go on in the def -/
theorem pe_lcR {W : WX} {elt tg iter : Expr} {ifs : List Expr} {scope : Scope} {own : List (Str × Nat)} {pos : Pos} {wi : TI} {g : TG} {tt : TT} {te : TE} (hc : X.calm = true) (tk : Takes X W) (hst : X.stack = X.env :: X.outer) (hfr : X.env.frame = some X.env.locals)
    (nd : X.N.Nodup) (hi : PI X tg iter wi) (ok : BlkOk X.N X.env.scope scope own) (hg : ∀ (s : Shared) (H : Hp) (C : Addr) (cl : List (Str × Addr)) (fp : List Addr), PG (X.blk s H scope (compEnvC scope cl C X.env) fp) tg g)
    (ht : ∀ (s : Shared) (H : Hp) (C : Addr) (cl : List (Str × Addr)) (fp : List Addr), PTs (X.blk s H scope (compEnvC scope cl C X.env) fp) ifs tt)
    (he : ∀ (s : Shared) (H : Hp) (C : Addr) (cl : List (Str × Addr)) (fp : List Addr) (pn : List (Addr × Obj)), Began X s H C fp → PE ((X.blk s H scope (compEnvC scope cl C X.env) fp).tr pn (Out X W C)) elt te)
    (hs : ∀ x, foldedSetIterable iter X.env x = pure x := by intro _; rfl) : PE X (.ListComp elt [⟨tg, iter, ifs, 0⟩] scope pos) (tLc wi g tt te (own.map (·.2))) := by
  refine ⟨fun pins s σ H Q I h => ?_⟩
  rw [eval_ListComp]
  have clo : ∀ y ∈ scope.names, y.2 = .free → ∃ c, X.env.cells.lookup y.1 = some c := fun y hy e => (ok.free y hy e).elim (fun k => I.ok.has _ (.inl k)) fun k => I.ok.has _ (.inr k)
  refine comp_in rfl hs (closure_ok clo) ok.kind (fun y hy e => (ok.uniq y hy).trans (congrArg some e)) (thn (hi.run pins s σ H _ I h) fun xv s1 hx => thn hx fun iv s2 hit => ?_)
  obtain ⟨it, fp, tn, J, H2, ev, I2, T, st2, fpk, q⟩ := hit
  subst ev
  refine wpAny_newObj_type (newEnv_comp ?_) (by show 0 ≤ sizeLine; decide)
  have freshD : H2 s2.heap.objs.size = none := I2.hok.fresh (Nat.le_refl _)
  obtain ⟨W0, ⟨m0, w0⟩, turn⟩ := q _ freshD
  have I3 : Inv X pins σ (upd H2 s2.heap.objs.size (.lst [])) { s2 with heap := s2.heap.push { cls := .type "list", data := .seq ([] : List Value).toArray } } :=
    I2.laid (t' := s2.toks) (fun b o e => Heap.get?_push_of_some _ e) (Nat.le_refl _) ⟨Nat.zero_le _, [], 0, .nil, Heap.get?_push_size _ rfl⟩
  generalize hD : s2.heap.objs.size = D at freshD w0 turn I3 ⊢
  generalize hs3 : ({ s2 with heap := s2.heap.push { cls := .type "list", data := .seq ([] : List Value).toArray } } : Shared) = s3 at I3 ⊢
  have hp3 : s3.heap = s2.heap.push { cls := .type "list", data := .seq ([] : List Value).toArray } := hs3 ▸ rfl
  have below : ∀ b ∈ fp, b < s2.heap.objs.size := fun b hb => let ⟨_, e, _⟩ := T.obj _ _ st2 b hb; Heap.lt_size e
  have fits : ∀ b ∈ fp, FpOk X pins (upd H2 D (.lst [])) b ∧ b < s3.heap.objs.size := fun b hb => by
    have lt := below b hb
    have z := fpk b hb
    refine ⟨⟨?_, z.2⟩, by rw [hp3, Heap.size_push]; exact Nat.lt_succ_of_lt lt⟩
    rw [upd_ne (fun e => by rw [e, ← hD] at lt; exact absurd lt (Nat.lt_irrefl _))]
    exact z.1
  have st3 : tn 0 s3.heap := T.keep _ _ _ st2 fun b _ o e => hp3 ▸ Heap.get?_push_of_some _ e
  have I4 := block_start I3 ok nd fits
  generalize hH3 : upd H2 D (.lst []) = H3 at I3 I4 fits w0
  have bg : Began X s3 H3 s3.heap.objs.size fp := ⟨rfl, pins, σ, I3, fun b hb => (fits b hb).1⟩
  generalize hcl : cellsFrom (s3.heap.objs.size + 1) scope.names (cloFrom X.env.cells scope.names []) = cl at I4
  generalize hC : s3.heap.objs.size = C at I4 bg
  have pg := hg s3 H3 C cl fp
  have pt := ht s3 H3 C cl fp
  have pe := fun pn => he s3 H3 C cl fp pn bg
  show codeAny _ _ (.compStart _ 0 (.ref it) (.ref D) (compEnvC scope cl C X.env)) (Post (model X.prog X.w) X.A X.xe _ (.ref D) (compEnvC scope cl C X.env)) _
  have c0 : C ∉ frs X.stack := fun z => by
    obtain ⟨_, o, e, _⟩ := I3.stack.mem z
    have lt := Heap.lt_size e
    rw [hC] at lt
    exact absurd lt (Nat.lt_irrefl _)
  have c5 : ∀ {H' : Hp}, H' C = none → FpOk X pins H' C := fun z => I3.fpOk (Nat.le_of_eq hC) z
  have lands : ∀ {u : Value} {t : Shared}, Out X W C u t → notedBy (model X.prog X.w) X.A (compEnvC scope cl C X.env) (fun e t2 => Post (model X.prog X.w) X.A X.xe (EP X pins σ Q) (.ref D) (compEnvC scope cl C X.env) (.error e) t2) u t := fun {u t} o => by
    have z := c5 (H' := fun _ => none) rfl
    exact out_lands tk hst hfr rfl rfl c0 z.2.1 z.2.2.2.1 z.2.2.2.2.1 (fun p hp => z.2.2.2.2.2 p (List.mem_append_left _ hp)) o
  generalize hs4 : ({ s3 with heap := pushCells (s3.heap.push { cls := .type "dict", data := .dict #[] }) scope.names } : Shared) = s4 at I4 ⊢
  have st4 : tn 0 s4.heap := T.keep _ _ _ st3 fun b _ o e => hs4 ▸ pushCells_keeps _ _ _ _ (Heap.get?_push_of_some _ e)
  have there : ∀ {σ' : L2.St} {H' : Hp} {t : Shared}, Inv (X.blk s3 H3 scope (compEnvC scope cl C X.env) fp) [] σ' H' t → (∀ b ∈ fp, H' b = none) → ∀ b ∈ fp, FpOk (X.blk s3 H3 scope (compEnvC scope cl C X.env) fp) [] H' b := fun K hn b hb =>
    ⟨hn b hb, (K.ok.exf b hb).1, K.ok.exfs b hb, .inl hb, fun x c e => (K.ok.exf b hb).2 x c e, fun p hp => absurd hp (by show p ∉ ([] : List (Addr × Obj)) ++ []; simp)⟩
  have run : codeAny (model X.prog X.w) X.A (.compLoop (.ListComp elt [⟨tg, iter, ifs, 0⟩] scope pos) 0 (.ref it) (.ref D) (compEnvC scope cl C X.env)) (Post (model X.prog X.w) X.A X.xe (EP X pins σ Q) (.ref D) (compEnvC scope cl C X.env)) s4 := by
    refine compLoop_any (fun n t => ∃ i H', Inv (X.blk s3 H3 scope (compEnvC scope cl C X.env) fp) [] (wipe σ (own.map (·.2))) H' t ∧ tn i t.heap ∧ (∀ b ∈ fp, H' b = none) ∧ W0 i n H') ?_ m0 ⟨0, H3, I4, st4, fun b hb => (fits b hb).1.1, w0⟩
    rintro n s5 ⟨i, H5, I5, st5, n5, w5⟩
    rcases turn i n H5 w5 with ⟨stop, qq⟩ | ⟨go, Nx, hNx, step⟩
    · have td := T.done (X.blk s3 H3 scope (compEnvC scope cl C X.env) fp) rfl rfl rfl hc i [] s5 _ H5 (fun _ _ => False) I5 (there I5 n5) st5 stop
      refine thnF td fun r s6 ⟨er, I6⟩ => ?_
      subst er
      have I7 : Inv X pins σ H5 s6 := I3.call' (ch := fp) I6.os I6.base I6.hok I6.bare fun b hb => let z := (fits b hb).1; ⟨z.2.2.2.1, z.2.1, z.2.2.2.2.1, z.2.2.2.2.2⟩
      obtain ⟨m, hn, _⟩ := I6.loc
      have z := c5 (show H5 C = none from I6.free)
      exact ⟨m, hn, fun h' sb => ⟨.ref D, H5, I7.turned (t' := s6.toks) (fun b o hb e => (sb.2 b hb).trans e) z.1 z.2.1 z.2.2.2.1 z.2.2.2.2.1 z.2.2.2.2.2, rfl, qq⟩⟩
    · have ti := T.item (X.blk s3 H3 scope (compEnvC scope cl C X.env) fp) rfl rfl rfl hc i [] s5 _ H5 (fun _ _ => False) I5 (there I5 n5) st5 go
      refine thnF ti fun r s6 ⟨u, er, more⟩ => ?_
      subst er
      refine thnF more fun _ s7 ⟨x, H7, I7, rx, y7, st7, n7⟩ => ?_
      have J7 := I7.pinned (there I7 n7) (T.obj _ _ st7)
      refine thnF (pg.run _ s7 _ H7 x u _ J7 rx (step x H7 y7)) fun _ s8 ⟨σ8, H8, J8, ew, q8⟩ => ?_
      refine thnF (pt.run _ s8 σ8 H8 _ J8 q8) fun b s9 ⟨H9, J9, q9⟩ => ?_
      have next : ∀ {t : Shared} {H' : Hp}, Inv (X.blk s3 H3 scope (compEnvC scope cl C X.env) fp) ([] ++ pinsAt fp s7.heap) σ8 H' t → Nx H' → ∃ m, m < n ∧ ∃ i H', Inv (X.blk s3 H3 scope (compEnvC scope cl C X.env) fp) [] (wipe σ (own.map (·.2))) H' t ∧ tn i t.heap ∧ (∀ b ∈ fp, H' b = none) ∧ W0 i m H' := fun {t H'} K nx => by
        obtain ⟨m', lt, w'⟩ := hNx H' nx
        have still : ∀ b ∈ fp, ∀ o, s7.heap.get? b = some o → t.heap.get? b = some o ∧ H' b = none := fun b hb o e =>
          let z := K.pin (b, o) (List.mem_append_right _ (List.mem_append_right _ (mem_pinsAt hb e)))
          ⟨z.1, z.2.1⟩
        have el : (wipe σ (own.map (·.2))).length = σ8.length := (congrArg List.length ew).symm.trans (wipe_length ..)
        refine ⟨m', lt, i + 1, H', (Inv.unpinned (pins := []) K).weak el (fun j v e => ?_), T.keep _ _ _ st7 fun b hb o e => (still b hb o e).1, fun b hb => ?_, w'⟩
        · rw [← ew] at e
          exact (wipe_some e).1
        · obtain ⟨o, e, _⟩ := T.obj _ _ st7 b hb
          exact (still b hb o e).2
      cases b with
      | false =>
        simp only [Bool.false_eq_true, if_false] at q9 ⊢
        exact next J9 q9
      | true =>
        simp only [if_true] at q9 ⊢
        refine wpAny_mono ((pe _).run _ s9 σ8 H9 _ (J9.toTry (Out X W C)) q9) (fun z s10 ⟨y, H10, J10, ry, acc, hacc, lacc, nx⟩ => ?_) fun e t o => lands o
        exact app_ok (X := X.blk s3 H3 scope (compEnvC scope cl C X.env) fp) (J10.ofTry J9.ok) hacc lacc ry fun s11 J11 => next J11 nx
  exact codeAny_compStart_list run (T.self X.A 0 _ _ _ st4 run)
end
end Lr

/-! t.index(True), t a tuple of truth values. -/
namespace Tix
open PySem PySem.Spec PyProof.Rows L2
theorem mt_tidxB {X : Cx} : MtR X "tuple.index" (fun x xs H Q => ∃ (p : Addr) (bs : List Bool) (j : Nat), x = .ref p ∧ xs = [.bl true] ∧ SqT X.K H p (bs.map V.bl) ∧ bs[j]? = some true ∧ (∀ m, m < j → bs[m]? ≠ some true) ∧ Q (.int (j : Nat)) H) := by
  intro pins s σ H x xs v vs Q I rx rs h
  obtain ⟨p, bs, j, rfl, rfl, hS, hj, first, go⟩ := h
  cases rx
  obtain ⟨w, rfl, rw⟩ := vals1 rs
  cases (show w = Value.bool true from rw)
  obtain ⟨its, rv, pl, big⟩ := I.tuple hS
  obtain ⟨⟨c0, d0, dat0, sl0⟩, hob, ec, cap, ed⟩ := pl
  simp only at ec ed
  subst ec ed
  have len : its.toArray.size = bs.length := by rw [List.size_toArray, ← rv.length, List.length_map]
  have item : ∀ (m : Nat) (hm : m < its.toArray.size), ∃ b, bs[m]? = some b ∧ its.toArray[m] = Value.bool b := fun m hm => by
    have hb : m < bs.length := len ▸ hm
    obtain ⟨z, hz, ez⟩ := rv.get (i := m) (x := .bl bs[m]) (by simp [hb])
    refine ⟨bs[m], List.getElem?_eq_getElem hb, ?_⟩
    have q := (List.getElem?_eq_some_iff.mp hz).2
    rw [← (show z = Value.bool bs[m] from ez), ← q]
    simp
  have fl : (bs.map V.bl).all flatV = true := by
    rw [List.all_map]
    exact List.all_eq_true.mpr fun _ _ => rfl
  have inside : j < its.toArray.size := len ▸ (List.getElem?_eq_some_iff.mp hj).1
  refine call_meets PySem.F.slot_tuple_index ⟨_, hob, rfl⟩ PySem.F.entry_tuple_index (PySem.F.args_tuple_index_2 _ _) (TI.tuple_indexAt p its.toArray cap d0 sl0 (.bool true) (eqU (.bl true)) j inside ?_ fun m hm lt => ?_)
    ⟨hob, fun y my => mem_eqAt (x := .bl true) rfl rfl rv fl y (by simpa using my), ⟨.int (j : Nat), H, I.tok _, ⟨_, rfl⟩, go⟩⟩
  · obtain ⟨b, e1, e2⟩ := item j inside
    rw [hj] at e1
    cases e1
    rw [e2]
    rfl
  · obtain ⟨b, e1, e2⟩ := item m hm
    rw [e2]
    cases b with
    | false => rfl
    | true => exact absurd e1 (first m lt)
end Tix

/-! What may be walked in two ways. -/
namespace Kd2
open PySem L2
theorem pi_or {X : Cx} {tg e : Expr} {w1 w2 : TI} (a : PI X tg e w1) (b : PI X tg e w2) : PI X tg e (fun σ H R => w1 σ H R ∨ w2 σ H R) := ⟨fun pins s σ H R I h => h.elim (a.run pins s σ H R I) (b.run pins s σ H R I)⟩
end Kd2

/-! t * k, t a tuple that is not empty, k from 1 on: t * 1 is t itself. -/
namespace Tu1
open PySem PySem.Spec PyProof.Rows L2 Wm
theorem mul_one (l : Addr) (items : Array Value) (n : Nat) (dd : Option Addr) (sl : Array (Option Value)) (u : Tok) :
    Meets (Builtin.«tuple.__mul__» ⟨[.ref l, .int 1 u], []⟩) (fun _ R s => s.heap.get? l = some { cls := .type "tuple", dict := dd, data := .seq items n, slots := sl } ∧ R (.ok (.ret (.ref l))) s) :=
  .of_wp fun prog w A R s h => by
    obtain ⟨hp, g, d, tk, os⟩ := s
    obtain ⟨hl, h⟩ := h
    have f1 := AutoSeq1.idx_int
    wp_walk using wpAny_loadPart' hl
    exact ⟨_, rfl, h⟩
def rRepA (K : PySem.W.Frag) : R2 := fun x y H Q => ∃ (l : Addr) (k : Int) (xs : List V), x = .ref l ∧ y = .int k ∧ SqT K H l xs ∧ xs ≠ [] ∧ 1 ≤ k ∧ k ≤ 1000 ∧ xs.length ≤ 1000 ∧ (k = 1 → Q (.ref l) H) ∧ ∀ p, H p = none → Q (.ref p) (upd H p (.tup (List.replicate k.toNat xs).flatten))
theorem op_repA {X : Cx} : OpR X (binaryOp .Mult) (rRepA X.K) := by
  intro pins s σ H x y v u Q I rx ry h
  obtain ⟨l, k, xs, ex, ey, hT, hne, h1, h2, hz, same, new⟩ := h
  by_cases c : k = 1
  · subst c ex ey
    cases rx
    obtain ⟨t, rfl⟩ := ry
    obtain ⟨its, r, ⟨⟨cls, dd, data, sl⟩, ho, hc, n, hd⟩, _⟩ := I.tuple hT
    simp only at hc hd
    subst hc hd
    exact wpAny_binaryOp_repeat_ref (T := "tuple") (U := "int") (by decide) ⟨_, ho, rfl⟩ (fun s' => typeIs_int s' 1 t) noFill_tuple_mul F.fills_int_mul F.slot_int_rmul repeat_tuple F.slot_int_index.lookup
      (call_meets F.slot_int_rmul (typeIs_int s 1 t) F.entry_int_rmul (F.args_int_rmul_2 _ _) (int_rmul_tuple 1 t l its.toArray n dd sl)
        ⟨ho, rfl, ⟨_, ho, rfl⟩, call_meets F.slot_tuple_mul ⟨_, ho, rfl⟩ F.entry_tuple_mul (F.args_tuple_mul_2 _ _) (mul_one l its.toArray n dd sl t) ⟨ho, .ref l, H, I, rfl, same rfl⟩⟩)
  · exact op_repT pins s σ H x y v u Q I rx ry ⟨l, k, xs, ex, ey, hT, hne, by omega, h2, hz, new⟩
/-- the same, wherever the product stands -/
def rRepB (K : PySem.W.Frag) : R2 := fun x y H Q => ∃ (l : Addr) (k : Int) (xs : List V), x = .ref l ∧ y = .int k ∧ SqT K H l xs ∧ xs ≠ [] ∧ 1 ≤ k ∧ k ≤ 1000 ∧ xs.length ≤ 1000 ∧ ∀ w H', Same H H' → SqT K H' w (List.replicate k.toNat xs).flatten → Q (.ref w) H'
theorem op_repB {X : Cx} : OpR X (binaryOp .Mult) (rRepB X.K) := by
  intro pins s σ H x y v u Q I rx ry h
  obtain ⟨l, k, xs, ex, ey, hT, hne, h1, h2, hz, q⟩ := h
  refine op_repA pins s σ H x y v u Q I rx ry ⟨l, k, xs, ex, ey, hT, hne, h1, h2, hz, fun e => q l H (Same.refl H) ?_, fun p hp => q p _ (Wm.same_new hp) (SqT.of upd_same)⟩
  subst e
  show SqT X.K H l (xs ++ [])
  rw [List.append_nil]
  exact hT
end Tu1

/-! tuple(list) with its own object told; methods of such a tuple (t.index). -/
namespace Tf
open PySem PySem.Spec PyProof.Rows L2
/-- a tuple whose own object is known: it has no dict -/
def TF (H : Hp) (p : Addr) (xs : List V) : Prop := ∃ ob, H p = some (.frz ob (.tup xs)) ∧ ob.dict = none
theorem TF.sq {K : PySem.W.Frag} {H : Hp} {p : Addr} {xs : List V} (h : TF H p xs) : SqT K H p xs := let ⟨ob, e, _⟩ := h; .inl (.inr ⟨ob, e⟩)
theorem TF.k {H H' : Hp} {p : Addr} {xs : List V} (h : TF H p xs) (s : Same H H') : TF H' p xs := let ⟨ob, e, d⟩ := h; ⟨ob, s _ _ e, d⟩
section
variable {X : Cx}
def rTupF (K : PySem.W.Frag) : List V → Hp → VK → Prop := fun vs H Q => ∃ p ys, vs = [.ref p] ∧ SqL K H p ys ∧ ∀ l ob, H l = none → ob.dict = none → Q (.ref l) (upd H l (.frz ob (.tup ys)))
theorem call_tupF : CallR X (.type "tuple") (rTupF X.K) := by
  intro pins s σ H xs us Q I r h
  obtain ⟨p, ys, rfl, hq, q⟩ := h
  obtain ⟨u, rfl, rx⟩ := r.one
  cases rx
  obtain ⟨its, r', pl, hz⟩ := I.list hq
  have hlen := r'.length
  refine call_tuple_list pl.isList (fun h' kp => ?_) (by simp only [List.size_toArray] <;> omega)
  have I1 : Inv X pins σ H { s with heap := h' } := I.kept (t' := s.toks) kp
  have I2 : Inv X pins σ (upd H h'.objs.size (.frz { cls := .type "tuple", data := .seq its.toArray } (.tup ys))) { s with heap := h'.push { cls := .type "tuple", data := .seq its.toArray } } :=
    I1.laid (t' := s.toks) (fun b o e => Heap.get?_push_of_some _ e) (Nat.le_refl _) (show ObjOk X.prog X.w _ _ _ (.frz _ (.tup ys)) from ⟨Heap.get?_push_size _ rfl, hz, its, r', IsTup.new _ _⟩)
  exact ⟨.ref h'.objs.size, _, I2, rfl, q _ _ (I1.hok.fresh (Nat.le_refl _)) rfl⟩
variable {T id : String} {name : Str} {o e : Expr} {es : List Expr} {apos cpos : Pos} {r : V → List V → Hp → VK → Prop} {to : TE} {t : TA}
def tBMF (r : V → List V → Hp → VK → Prop) (to : TE) (t : TA) : TE := fun σ H Q => to σ H fun x H1 => (∃ p xs, x = .ref p ∧ TF H1 p xs) ∧ t σ H1 fun vs H2 => r x vs H2 Q
theorem pe_bmF (pa : PlainAttrs "tuple") (slot : Slot "tuple" name id) (hty : typeOf (.builtin id) = pure (.type "method_descriptor")) (hm : MtR X id r) (ho : PE X o to) (ha : PA X (e :: es) t)
    (hbase : attributeBase o name X.env (eval o X.env) = eval o X.env := by rfl)
    (hfew : ((backTo cpos (starEach (e :: es) X.env)).all (fun x => !x.1) && (backToKw cpos (keywordEach [] X.env)).all (fun x => x.1.isSome)
      && decide ((e :: es).length + ([] : List Keyword).length + (if ([] : List Keyword).isEmpty then 0 else 1) < 30)) = true := by rfl)
    (hline : (apos.endLine == cpos.line) = true := by rfl) (hs : starEach (e :: es) X.env = (false, eval e X.env) :: starEach es X.env := by rfl) (hplain : (backTo cpos (starEach es X.env)).any (·.1) = false := by rfl) :
    PE X (.Call (.Attribute o name apos) (e :: es) [] cpos) (tBMF r to t) := by
  refine ⟨fun pins s σ H Q I h => ?_⟩
  refine wpAny_Call_method_late hbase hfew hline rfl (thn (ho.run pins s σ H _ I h) fun v s1 ⟨x, H1, I1, r1, ty, q1⟩ => ?_)
  obtain ⟨p, xs, rfl, ob, hp, hd⟩ := ty
  cases r1
  obtain ⟨hg, hok⟩ := I1.hok p _ hp
  obtain ⟨_, its, _, o2, ho2, hc2, _⟩ := hok
  rw [hg] at ho2
  cases ho2
  refine ⟨"tuple", id, pa, slot, hty, ⟨ob, hg, hc2⟩, fun a e => by cases e; exact ⟨ob, hg, hd⟩, ?_⟩
  have hA := ha.run cpos pins s1 σ H1 _ I1 q1
  rw [hs] at hA ⊢
  refine Calls.callWith_builtin (by show (false || (backTo cpos (starEach es X.env)).any (·.1)) = false; rw [hplain] <;> rfl) (Calls.evalArgs_plain ?_)
  exact thn hA fun us s2 ⟨vs, H2, I2, r2, q2⟩ => hm pins s2 σ H2 (V.ref p) vs _ us Q I2 rfl r2 q2
end
end Tf

/-! A call by keywords that may raise, its exception's part told by the state at the call. -/
namespace Kw
open PySem PySem.Spec PyProof.Rows L2
section
variable {X : Cx} {CX : CXT} {k n : Nat} {f : Addr} {fd : FuncData} {ps ks : List Str} {sp : Sp} {E : L2.St → XK} {x : Str} {e : Expr} {es : List Expr} {kws : List Keyword} {t tk : TA} {p pos : Pos} {g : List Value → List Value → List Value} {gV : List V → List V → List V}
theorem run_fnNS {pins : List (Addr × Obj)} {σ : L2.St} {H : Hp} {s : Shared} {Q : VK} {us ws : List Value} {vs zs : List V} (F : FnOk X.prog X.w X.K X.mg X.base CX k f fd ps sp) (hr : Room k X.A) (hb : KBn X.K fd ps n ks g gV) (hx : PassesAt CX X σ (E σ))
    (I : Inv X pins σ H s) (r : Vals vs us) (rz : Vals zs ws) (l1 : vs.length = n) (l2 : zs.length = ks.length) (h : sp (gV vs zs) H Q (E σ)) : wpAny (model X.prog X.w) X.A (call (.ref f) us (ks.zip ws)) (EP X pins σ Q) X.xe s := by
  have r2 := hb.rel r rz
  refine wpAny_call (codeAny_mono (F.run X.A X.stack s H ⟨us, ks.zip ws⟩ (g us ws) (gV vs zs) Q (E σ) hr I.env0 (hb.to s us ws I.kIn (r.length.symm.trans l1) (rz.length.symm.trans l2)) r2 h) fun r s' hq => ?_)
  cases r with
  | error e => exact hx pins H s e s' I hq
  | ok fl =>
    cases fl with
    | ret u => exact I.after hq
    | next => exact False.elim hq
    | brk => exact False.elim hq
    | cont => exact False.elim hq
def tCallNS (n m : Nat) (sp : Sp) (gV : List V → List V → List V) (E : L2.St → XK) (t tk : TA) : TE := fun σ H Q => t σ H fun vs H1 => tk σ H1 fun zs H2 => vs.length = n ∧ zs.length = m ∧ sp (gV vs zs) H2 Q (E σ)
theorem pe_callNS (F : FnOk X.prog X.w X.K X.mg X.base CX k f fd ps sp) (hr : Room k X.A) (hg : Gl X x) (hm : X.mg x = some (.ref f)) (hk : PySem.W.keepIn X.K (.ref f) = true) (hb : KBn X.K fd ps n ks g gV) (hx : ∀ σ, PassesAt CX X σ (E σ))
    (ha : PA X (e :: es) t) (hkw : PK X kws tk) (hall : (backToKw pos (keywordEach kws X.env)).all (·.1.isSome) = true := by rfl) (hks : (backToKw pos (keywordEach kws X.env)).filterMap (·.1) = ks := by rfl)
    (hdb : (x == ("__debug__" : Str)) = false := by decide) (he : starEach (e :: es) X.env = (false, eval e X.env) :: starEach es X.env := by rfl)
    (hpl : ((backTo pos (starEach (e :: es) X.env)).any (·.1) || (backToKw pos (keywordEach kws X.env)).any (·.1.isNone)) = false := by rfl) :
    PE X (.Call (.Name x p) (e :: es) kws pos) (tCallNS n ks.length sp gV E t tk) := by
  refine ⟨fun pins s σ H Q I h => ?_⟩
  refine wpAny_Call_Name_kw (ld_glob I hg hm ?_ hdb)
  refine PySem.W.callWith_KW (h₀ := X.base) I.ok.mod.kin hk hall (thn (ha.run pos pins s σ H _ I h) fun us s1 ⟨vs, H1, I1, r, q⟩ => ?_) hpl he
  refine thn (hkw.run pos pins s1 σ H1 _ I1 q) fun ws s2 ⟨zs, H2, I2, rz, l1, l2, q2⟩ => ⟨I2.kIn, ?_⟩
  rw [hks]
  exact run_fnNS F hr hb (hx σ) I2 r rz l1 l2 q2
end
end Kw
/-! Making an object by C(e, .., k = v, ..) within a try: what is raised is wished for at the slots as they stand. -/
namespace Kw
open PySem PySem.Spec PyProof.Rows L2
section
variable {X : Cx} {CX : CXT} {k n : Nat} {f C : Addr} {fd : FuncData} {ps ks : List Str} {sp : Sp} {E : L2.St → XK} {x : Str} {e : Expr} {es : List Expr} {kws : List Keyword} {t tk : TA} {p pos : Pos} {g : List Value → List Value → List Value} {gV : List V → List V → List V}
def tMakeKS (C : Addr) (n m : Nat) (sp : Sp) (gV : List V → List V → List V) (E : L2.St → XK) (t tk : TA) : TE := fun σ H Q => t σ H fun vs H1 => tk σ H1 fun zs H2 => vs.length = n ∧ zs.length = m ∧
  ∀ x dx, H2 x = none → H2 dx = none → dx ≠ x → sp (gV (.ref x :: vs) zs) (upd (upd H2 dx (.own x)) x (.ins C dx [])) (fun v H3 => v = .non ∧ Q (.ref x) H3) (E σ)
theorem pe_makeKS (M : Mk X.K C f) (F : FnOk X.prog X.w X.K X.mg X.base CX k f fd ps sp) (hr : Room (k + 1) X.A) (hg : Gl X x) (hm : X.mg x = some (.ref C)) (hb : KBn X.K fd ps (n + 1) ks g gV) (hx : ∀ σ, PassesAt CX X σ (E σ)) (ha : PA X (e :: es) t) (hkw : PK X kws tk)
    (hall : (backToKw pos (keywordEach kws X.env)).all (·.1.isSome) = true := by rfl) (hks : (backToKw pos (keywordEach kws X.env)).filterMap (·.1) = ks := by rfl) (hdb : (x == ("__debug__" : Str)) = false := by decide)
    (he : starEach (e :: es) X.env = (false, eval e X.env) :: starEach es X.env := by rfl) (hpl : ((backTo pos (starEach (e :: es) X.env)).any (·.1) || (backToKw pos (keywordEach kws X.env)).any (·.1.isNone)) = false := by rfl) :
    PE X (.Call (.Name x p) (e :: es) kws pos) (tMakeKS C n ks.length sp gV E t tk) := by
  refine ⟨fun pins s σ H Q I h => ?_⟩
  refine wpAny_Call_Name_kw (ld_glob I hg hm ?_ hdb)
  refine PySem.W.callWith_KW (h₀ := X.base) I.ok.mod.kin M.kp hall (thn (ha.run pos pins s σ H _ I h) fun us s1 w => ?_) hpl he
  obtain ⟨vs, H1, I1, r, q⟩ := w
  refine thn (hkw.run pos pins s1 σ H1 _ I1 q) fun ws s2 w2 => ?_
  obtain ⟨zs, H2, J, rz, l1, l2, q2⟩ := w2
  refine ⟨J.kIn, ?_⟩
  rw [hks]
  have go := q2 (s2.heap.objs.size + 1) s2.heap.objs.size (J.hok.fresh (Nat.le_succ _)) (J.hok.fresh (Nat.le_refl _)) (Nat.ne_of_lt (Nat.lt_succ_self _))
  have J2 := Inv.made (C := C) J
  have r1 : Vals (V.ref (s2.heap.objs.size + 1) :: vs) (Value.ref (s2.heap.objs.size + 1) :: us) := .cons rfl r
  have n1 : (Value.ref (s2.heap.objs.size + 1) :: us).length = n + 1 := r1.length.symm.trans (congrArg (· + 1) l1)
  have ran := F.run _ X.stack _ _ ⟨Value.ref (s2.heap.objs.size + 1) :: us, ks.zip ws⟩ _ _ _ (E σ) (hr.make C us (ks.zip ws)) (J2.env0.make C us (ks.zip ws)) (hb.to _ _ ws J2.kIn n1 (rz.length.symm.trans l2)) (hb.rel r1 rz) go
  refine wpAny_call (make_map (f := f) J.kIn M.makes M.init (beq_iff_eq.mp M.fn) (codeAny_mono ran fun z t2 hz => ?_))
  match z, hz with
  | .error _, hz => exact hx σ pins _ _ _ _ J2 hz
  | .ok (.ret _), hz =>
    obtain ⟨_, _, J3, rv, ev, q3⟩ := J2.after hz
    subst ev
    exact ⟨rv, V.ref (s2.heap.objs.size + 1), _, J3, rfl, q3⟩
  | .ok .next, hz => exact hz.elim
  | .ok .brk, hz => exact hz.elim
  | .ok .cont, hz => exact hz.elim
end
section
variable {X : Cx} {CX : CXT} {k n : Nat} {f C : Addr} {fd : FuncData} {ps ks : List Str} {sp : Sp} {E : L2.St → XK} {m : Str} {pos apos : Pos} {o : Expr} {kws : List Keyword} {ta : TE} {tk : TA} {g : List Value → List Value → List Value} {gV : List V → List V → List V} {pl : Sem Bool}
def tMethNS (C : Addr) (m : Str) (n : Nat) (sp : Sp) (gV : List V → List V → List V) (E : L2.St → XK) (ta : TE) (tk : TA) : TE := fun σ H Q => ta σ H fun x H1 => ∃ a dx fs, x = .ref a ∧ H1 a = some (.ins C dx fs) ∧ fs.lookup m = none ∧
  tk σ H1 fun zs H2 => zs.length = n ∧ sp (gV [x] zs) H2 Q (E σ)
theorem pe_methNS (ho : PE X o ta) (c : Cls X.K C) (hm : Meth X.K C m f) (F : FnOk X.prog X.w X.K X.mg X.base CX k f fd ps sp) (hr : Room k X.A) (hb : KBn X.K fd ps 1 ks g gV) (hx : ∀ σ, PassesAt CX X σ (E σ)) (hk : PK X kws tk)
    (h1 : (backToKw pos (keywordEach kws X.env)).all (·.1.isSome) = true := by rfl) (h2 : (backToKw pos (keywordEach kws X.env)).filterMap (·.1) = ks := by rfl)
    (h3 : ((backTo pos (starEach [] X.env)).any (·.1) || (backToKw pos (keywordEach kws X.env)).any (·.1.isNone)) = false := by rfl)
    (h4 : eval (.Call (.Attribute o m apos) [] kws pos) X.env = (do
      let v ← eval o X.env
      standAt apos.atName
      let (a, b) ← holding [v] (getMethod v m pl)
      callWith pos a b (backTo pos (starEach [] X.env)) (backToKw pos (keywordEach kws X.env))) := by rfl) :
    PE X (.Call (.Attribute o m apos) [] kws pos) (tMethNS C m ks.length sp gV E ta tk) := by
  constructor
  intro pins s σ H Q I h
  refine PySem.W.methodCall_KW (pl := pl) (thn (ho.run pins s σ H _ I h) fun u s1 w => ?_) h4
  obtain ⟨x, H1, I1, rx, a, dx, fs, ex, ea, l, q⟩ := w
  subst ex
  cases (show u = Value.ref a from rx)
  refine getmeth_ok I1 ea c hm l ?_
  refine PySem.W.callWith_KW0 (first := [.ref a]) (h₀ := X.base) I.ok.mod.kin hm.kp h1 (thn (hk.run pos pins s1 σ H1 _ I1 q) fun ws s2 w2 => ?_) h3
  obtain ⟨zs, H2, I2, rz, l2, q2⟩ := w2
  refine ⟨I2.kIn, ?_⟩
  rw [h2]
  exact run_fnNS (us := [.ref a]) (vs := [.ref a]) F hr hb (hx σ) I2 (.cons rfl .nil) rz rfl l2 q2
end
/-- in an except suite: the suite's K is the def's (else the clause's own promise would speak of the suite) -/
theorem pe_bmQ {X : Cx} {K : PySem.W.Frag} {e : Expr} {r : PySem.W.Frag → TE} (h : PE X e (r X.K)) (hk : X.K = K) : PE X e (r K) := hk ▸ h
end Kw

/-! Comprehensions whose items are told one by one: over any walk, with facts that live on all but the list that is made. -/
namespace Lm
open PySem L2 Wm Dv
/-- what stood stands, but for D -/
def Bar (D : Addr) (H H' : Hp) : Prop := ∀ a o, a ≠ D → H a = some o → H' a = some o
theorem Bar.kt {K : PySem.W.Frag} {D : Addr} {H H' : Hp} {ys : List V} (hy : H D = some (.lst ys)) (e : Bar D H H') : Kt K H H' := fun a xs q => by
  have ne : ∀ {u : HO}, H a = some u → (∀ y, u ≠ .lst y) → H' a = some u := fun {u} h n => e _ _ (fun z => by subst z; rw [hy] at h; exact n _ (Option.some.inj h).symm) h
  rcases q with (q | ⟨ob, q⟩) | q
  · exact .inl (.inl (ne q fun y z => by cases z))
  · exact .inl (.inr ⟨ob, ne q fun y z => by cases z⟩)
  · exact .inr q
theorem lc_any {J : It} {n : Nat} {G : Hp → Prop} {Y : Nat → Hp → V → Hp → Prop} (w : Walk J n G Y) {g : TG} {te : TE} {vs : List Nat} {σ : L2.St} {H1 : Hp} {D : Addr} {Qd : Hp → Prop} (R : Nat → V → Hp → Prop)
    (mono : ∀ i y H H' ys, R i y H → H D = some (.lst ys) → Bar D H H' → R i y H') (hY : ∀ i H x H', Y i H x H' → Same H H') (hD : H1 D = none) (hn : n ≤ 1000) (hG : ∀ H', Same H1 H' → G H')
    (hs : ∀ i x H H', i < n → Same H1 H → (∃ ys, H D = some (.lst ys)) → Y i H x H' → ∀ (Q : V → Hp → Prop) (Z : Hp → Prop), (∀ y H4, Same H' H4 → R i y H4 → Q y H4) → g x (wipe σ vs) H' fun σ2 H2 => wipe σ2 vs = wipe σ vs ∧ tYes σ2 H2 fun b H3 => if b = true then te σ2 H3 Q else Z H3)
    (hd : ∀ H ys, Same H1 H → H D = some (.lst ys) → ys.length = n → (∀ (i : Nat) y, ys[i]? = some y → R i y H) → Qd H) :
    ∃ W : Nat → Nat → Hp → Prop, (∃ m, W 0 m (upd H1 D (.lst []))) ∧ ∀ i m H, W i m H →
      (J.stop i H ∧ Qd H) ∨ (J.go i H ∧ ∃ Nx : Hp → Prop, (∀ H', Nx H' → ∃ m', m' < m ∧ W (i + 1) m' H') ∧ ∀ x H', J.yld i H x H' → g x (wipe σ vs) H' fun σ2 H2 => wipe σ2 vs = wipe σ vs ∧ tYes σ2 H2 fun b H3 =>
        if b = true then te σ2 H3 fun y H4 => ∃ acc, H4 D = some (.lst acc) ∧ acc.length < sizeLine ∧ Nx (upd H4 D (.lst (acc ++ [y]))) else Nx H3) := by
  refine lc_it (tt := tYes) w (fun i H => Same H1 H ∧ ∃ ys : List V, ys.length = i ∧ H D = some (.lst ys) ∧ ∀ j y, ys[j]? = some y → R j y H) ⟨same_new hD, [], rfl, upd_same, fun (j : Nat) (y : V) e => by simp at e⟩ (fun i H _ h => hG H h.1) (fun i x H H' hi hP y => ?_) (fun H hP => ?_)
  · obtain ⟨sm, ys, el, hy, hR⟩ := hP
    have sy := hY _ _ _ _ y
    refine hs i x H H' hi sm ⟨ys, hy⟩ y _ _ (fun y H4 s4 r4 => ?_)
    have s5 := sy.trans s4
    have b5 : Bar D H4 (upd H4 D (.lst (ys ++ [y]))) := fun a o n e => by
      rw [upd_ne n]
      exact e
    refine ⟨ys, s5 _ _ hy, by rw [el]; exact small1000 (by omega), same_mut (sm.trans s5) hD, ys ++ [y], by rw [List.length_append, el]; rfl, upd_same, fun j z hz => ?_⟩
    by_cases lj : j < ys.length
    · rw [List.getElem?_append_left lj] at hz
      exact mono _ _ _ _ _ (mono _ _ _ _ _ (hR j z hz) hy fun a o _ e => s5 _ _ e) (s5 _ _ hy) b5
    · rw [List.getElem?_append_right (by omega)] at hz
      have e0 : j - ys.length = 0 := by
        by_cases q : j - ys.length = 0
        · exact q
        · rw [List.getElem?_eq_none (by rw [List.length_singleton]; omega)] at hz
          cases hz
      rw [e0] at hz
      have ez : y = z := by simpa using hz
      have ej : j = i := by omega
      subst ez ej
      exact mono _ _ _ _ _ r4 (s5 _ _ hy) b5
  · obtain ⟨sm, ys, el, hy, hR⟩ := hP
    exact hd H ys sm hy el hR
/-- the same, the items apart from one another -/
theorem lc_apart {J : It} {n : Nat} {G : Hp → Prop} {Y : Nat → Hp → V → Hp → Prop} (w : Walk J n G Y) {g : TG} {te : TE} {vs : List Nat} {σ : L2.St} {H1 : Hp} {D : Addr} {Qd : Hp → Prop} (R : Nat → V → Hp → Prop) (N : V → V → Prop)
    (mono : ∀ i y H H' ys, R i y H → H D = some (.lst ys) → Bar D H H' → R i y H') (hY : ∀ i H x H', Y i H x H' → Same H H') (hD : H1 D = none) (hn : n ≤ 1000) (hG : ∀ H', Same H1 H' → G H')
    (hs : ∀ i x H H', i < n → Same H1 H → (∃ ys, H D = some (.lst ys)) → Y i H x H' → ∀ ys : List V, (∀ (j : Nat) z, ys[j]? = some z → R j z H) → ∀ (Q : V → Hp → Prop) (Z : Hp → Prop), (∀ y H4, Same H' H4 → R i y H4 → (∀ z ∈ ys, N z y) → Q y H4) → g x (wipe σ vs) H' fun σ2 H2 => wipe σ2 vs = wipe σ vs ∧ tYes σ2 H2 fun b H3 => if b = true then te σ2 H3 Q else Z H3)
    (hd : ∀ H ys, Same H1 H → H D = some (.lst ys) → ys.length = n → (∀ (i : Nat) y, ys[i]? = some y → R i y H) → ys.Pairwise N → Qd H) :
    ∃ W : Nat → Nat → Hp → Prop, (∃ m, W 0 m (upd H1 D (.lst []))) ∧ ∀ i m H, W i m H →
      (J.stop i H ∧ Qd H) ∨ (J.go i H ∧ ∃ Nx : Hp → Prop, (∀ H', Nx H' → ∃ m', m' < m ∧ W (i + 1) m' H') ∧ ∀ x H', J.yld i H x H' → g x (wipe σ vs) H' fun σ2 H2 => wipe σ2 vs = wipe σ vs ∧ tYes σ2 H2 fun b H3 =>
        if b = true then te σ2 H3 fun y H4 => ∃ acc, H4 D = some (.lst acc) ∧ acc.length < sizeLine ∧ Nx (upd H4 D (.lst (acc ++ [y]))) else Nx H3) := by
  refine lc_it (tt := tYes) w (fun i H => Same H1 H ∧ ∃ ys : List V, ys.length = i ∧ H D = some (.lst ys) ∧ (∀ j y, ys[j]? = some y → R j y H) ∧ ys.Pairwise N) ⟨same_new hD, [], rfl, upd_same, (fun (j : Nat) (y : V) e => by simp at e), .nil⟩ (fun i H _ h => hG H h.1) (fun i x H H' hi hP y => ?_) (fun H hP => ?_)
  · obtain ⟨sm, ys, el, hy, hR, hN⟩ := hP
    have sy := hY _ _ _ _ y
    refine hs i x H H' hi sm ⟨ys, hy⟩ y ys hR _ _ (fun y H4 s4 r4 n4 => ?_)
    have s5 := sy.trans s4
    have b5 : Bar D H4 (upd H4 D (.lst (ys ++ [y]))) := fun a o n e => by
      rw [upd_ne n]
      exact e
    refine ⟨ys, s5 _ _ hy, by rw [el]; exact small1000 (by omega), same_mut (sm.trans s5) hD, ys ++ [y], by rw [List.length_append, el]; rfl, upd_same, fun j z hz => ?_, List.pairwise_append.mpr ⟨hN, List.pairwise_singleton _ _, fun a ma c mc => by rw [List.mem_singleton.mp mc]; exact n4 a ma⟩⟩
    by_cases lj : j < ys.length
    · rw [List.getElem?_append_left lj] at hz
      exact mono _ _ _ _ _ (mono _ _ _ _ _ (hR j z hz) hy fun a o _ e => s5 _ _ e) (s5 _ _ hy) b5
    · rw [List.getElem?_append_right (by omega)] at hz
      have e0 : j - ys.length = 0 := by
        by_cases q : j - ys.length = 0
        · exact q
        · rw [List.getElem?_eq_none (by rw [List.length_singleton]; omega)] at hz
          cases hz
      rw [e0] at hz
      have ez : y = z := by simpa using hz
      have ej : j = i := by omega
      subst ez ej
      exact mono _ _ _ _ _ r4 (s5 _ _ hy) b5
  · obtain ⟨sm, ys, el, hy, hR, hN⟩ := hP
    exact hd H ys sm hy el hR hN
theorem same_at {xs : List V} {i : Nat} {H H' : Hp} {x : V} (h : YAt xs i H x H') : Same H H' := by
  obtain ⟨rfl, _⟩ := h
  exact Same.refl _
theorem same_pair {f g : Nat → Option V} {i : Nat} {H H' : Hp} {x : V} (h : YPair f g i H x H') : Same H H' := by
  obtain ⟨T, a, b, rfl, hT, rfl, _⟩ := h
  exact same_new hT
end Lm
namespace Kx
open PySem L2
def rLst (K : PySem.W.Frag) : List V → Hp → VK → Prop := fun xs H Q => ∃ p ys, xs = [.ref p] ∧ (SqL K H p ys ∨ SqT K H p ys) ∧ ∀ l, H l = none → Q (.ref l) (upd H l (.lst ys))
end Kx

namespace K52
open PySem L2
def top (i : Nat) : Stmt := PySem.Challenge.pw_wheelchorus_k52_panels_beat_by_beat.main.body.getD i (.Pass ⟨0, 0, 0, 0⟩)
abbrev s_is_whole : Stmt := top 9
abbrev s_is_whole_within : Stmt := top 10
abbrev s_is_number : Stmt := top 20
abbrev s_is_ring_text : Stmt := top 30
abbrev s_zones_of : Stmt := top 31
abbrev s_init : Stmt := inClass (top 29) 0
abbrev s_all_faults : Stmt := inClass (top 29) 5
abbrev s_check_fault : Stmt := inClass (top 29) 6
abbrev s_check_faults : Stmt := inClass (top 29) 7
abbrev s_zone_of : Stmt := inClass (top 29) 12
abbrev s_closed_stretches : Stmt := inClass (top 29) 11
abbrev s_passed_from : Stmt := inClass (top 29) 10
abbrev s_reached : Stmt := inClass (top 29) 9
abbrev s_hinit : Stmt := inClass (top 34) 0
abbrev s_heq : Stmt := inClass (top 34) 1
abbrev s_is_silent : Stmt := inClass (top 34) 3
abbrev s_set_faults : Stmt := inClass (top 12) 1
abbrev s_reset : Stmt := inClass (top 12) 4
abbrev s_pinit : Stmt := inClass (top 12) 0
abbrev s_put_fault : Stmt := inClass (top 12) 2
abbrev s_mend_fault : Stmt := inClass (top 12) 3
abbrev s_check_levels : Stmt := top 13
abbrev s_count_behind : Stmt := inClass (top 12) 6
abbrev s_beat : Stmt := inClass (top 12) 5
abbrev s_copied : Stmt := inClass (top 12) 7
abbrev s_tried : Stmt := top 14
abbrev s_first_warning : Stmt := top 15
abbrev s_false_levels : Stmt := top 35
abbrev s_open : Stmt := top 37
abbrev s_draw : Stmt := top 38
abbrev s_text : Stmt := top 39
abbrev s_faults : Stmt := top 40
abbrev s_zone : Stmt := top 41
abbrev s_open_at : Stmt := top 42
abbrev s_passed : Stmt := top 43
abbrev s_spots : Stmt := top 44
abbrev s_heard : Stmt := top 45
abbrev s_levels : Stmt := top 46
abbrev s_step : Stmt := top 47
abbrev s_ordered : Stmt := top 48
abbrev s_same : Stmt := top 49
abbrev s_run : Stmt := top 50
abbrev s_ltried : Stmt := top 51
abbrev s_trial : Stmt := top 52
abbrev s_wrong : Stmt := top 53
abbrev s_mended : Stmt := top 54
abbrev s_deed : Stmt := top 55
abbrev s_silent : Stmt := top 56
abbrev s_left_out : Stmt := top 57
abbrev s_least : Stmt := top 58
abbrev s_law : Stmt := top 59
abbrev nm_is_whole : List Str := ["thing"]
theorem sc_is_whole : FnScope nm_is_whole ["thing"] (defScope s_is_whole) :=
  ⟨rfl, rfl, rfl, by decide +kernel, rfl, by decide +kernel, by decide +kernel⟩
abbrev nm_is_whole_within : List Str := ["thing", "low", "high"]
theorem sc_is_whole_within : FnScope nm_is_whole_within ["thing", "low", "high"] (defScope s_is_whole_within) :=
  ⟨rfl, rfl, rfl, by decide +kernel, rfl, by decide +kernel, by decide +kernel⟩
abbrev nm_is_number : List Str := ["thing", "letter"]
theorem sc_is_number : FnScope nm_is_number ["thing"] (defScope s_is_number) :=
  ⟨rfl, rfl, rfl, by decide +kernel, rfl, by decide +kernel, by decide +kernel⟩
abbrev nm_is_ring_text : List Str := ["thing", "sign"]
theorem sc_is_ring_text : FnScope nm_is_ring_text ["thing"] (defScope s_is_ring_text) :=
  ⟨rfl, rfl, rfl, by decide +kernel, rfl, by decide +kernel, by decide +kernel⟩
abbrev nm_zones_of : List Str := ["text", "zones", "first", "part"]
theorem sc_zones_of : FnScope nm_zones_of ["text"] (defScope s_zones_of) :=
  ⟨rfl, rfl, rfl, by decide +kernel, rfl, by decide +kernel, by decide +kernel⟩
abbrev nm_init : List Str := ["self", "text"]
theorem sc_init : FnScope nm_init ["self", "text"] (defScope s_init) :=
  ⟨rfl, rfl, rfl, by decide +kernel, rfl, by decide +kernel, by decide +kernel⟩
abbrev nm_all_faults : List Str := ["self", "stretch", "word"]
theorem sc_all_faults : FnScope nm_all_faults ["self"] (defScope s_all_faults) :=
  ⟨rfl, rfl, rfl, by decide +kernel, rfl, by decide +kernel, by decide +kernel⟩
abbrev nm_check_fault : List Str := ["self", "thing"]
theorem sc_check_fault : FnScope nm_check_fault ["self", "thing"] (defScope s_check_fault) :=
  ⟨rfl, rfl, rfl, by decide +kernel, rfl, by decide +kernel, by decide +kernel⟩
abbrev nm_check_faults : List Str := ["self", "faults", "fault"]
theorem sc_check_faults : FnScope nm_check_faults ["self", "faults"] (defScope s_check_faults) :=
  ⟨rfl, rfl, rfl, by decide +kernel, rfl, by decide +kernel, by decide +kernel⟩
abbrev nm_zone_of : List Str := ["self", "stretch"]
theorem sc_zone_of : FnScope nm_zone_of ["self", "stretch"] (defScope s_zone_of) :=
  ⟨rfl, rfl, rfl, by decide +kernel, rfl, by decide +kernel, by decide +kernel⟩
abbrev nm_closed_stretches : List Str := ["self", "faults", "dead", "word", "stretch", "stretches"]
theorem sc_closed_stretches : FnScope nm_closed_stretches ["self", "faults"] (defScope s_closed_stretches) :=
  ⟨rfl, rfl, rfl, by decide +kernel, rfl, by decide +kernel, by decide +kernel⟩
abbrev nm_passed_from : List Str := ["self", "end", "faults", "closed", "passed", "places", "place"]
theorem sc_passed_from : FnScope nm_passed_from ["self", "end", "faults"] (defScope s_passed_from) :=
  ⟨rfl, rfl, rfl, by decide +kernel, rfl, by decide +kernel, by decide +kernel⟩
abbrev nm_reached : List Str := ["self", "faults"]
theorem sc_reached : FnScope nm_reached ["self", "faults"] (defScope s_reached) :=
  ⟨rfl, rfl, rfl, by decide +kernel, rfl, by decide +kernel, by decide +kernel⟩
abbrev nm_hinit : List Str := ["self", "box", "ring", "mark", "rows", "need"]
theorem sc_hinit : FnScope nm_hinit ["self", "box", "ring", "mark", "rows", "need"] (defScope s_hinit) :=
  ⟨rfl, rfl, rfl, by decide +kernel, rfl, by decide +kernel, by decide +kernel⟩
abbrev nm_heq : List Str := ["self", "other"]
theorem sc_heq : FnScope nm_heq ["self", "other"] (defScope s_heq) :=
  ⟨rfl, rfl, rfl, by decide +kernel, rfl, by decide +kernel, by decide +kernel⟩
abbrev nm_is_silent : List Str := ["self", "faults"]
theorem sc_is_silent : FnScope nm_is_silent ["self", "faults"] (defScope s_is_silent) :=
  ⟨rfl, rfl, rfl, by decide +kernel, rfl, by decide +kernel, by decide +kernel⟩
abbrev nm_set_faults : List Str := ["self", "faults", "fault"]
theorem sc_set_faults : FnScope nm_set_faults ["self", "faults"] (defScope s_set_faults) :=
  ⟨rfl, rfl, rfl, by decide +kernel, rfl, by decide +kernel, by decide +kernel⟩
abbrev nm_reset : List Str := ["self"]
theorem sc_reset : FnScope nm_reset ["self"] (defScope s_reset) :=
  ⟨rfl, rfl, rfl, by decide +kernel, rfl, by decide +kernel, by decide +kernel⟩
abbrev nm_pinit : List Str := ["self", "house"]
theorem sc_pinit : FnScope nm_pinit ["self", "house"] (defScope s_pinit) :=
  ⟨rfl, rfl, rfl, by decide +kernel, rfl, by decide +kernel, by decide +kernel⟩
abbrev nm_put_fault : List Str := ["self", "fault"]
theorem sc_put_fault : FnScope nm_put_fault ["self", "fault"] (defScope s_put_fault) :=
  ⟨rfl, rfl, rfl, by decide +kernel, rfl, by decide +kernel, by decide +kernel⟩
abbrev nm_mend_fault : List Str := ["self", "fault", "other"]
theorem sc_mend_fault : FnScope nm_mend_fault ["self", "fault"] (defScope s_mend_fault) :=
  ⟨rfl, rfl, rfl, by decide +kernel, rfl, by decide +kernel, by decide +kernel⟩
abbrev nm_check_levels : List Str := ["house", "levels", "index", "level"]
theorem sc_check_levels : FnScope nm_check_levels ["house", "levels"] (defScope s_check_levels) :=
  ⟨rfl, rfl, rfl, by decide +kernel, rfl, by decide +kernel, by decide +kernel⟩
abbrev nm_count_behind : List Str := ["self", "seeker", "level", "is_high"]
theorem sc_count_behind : FnScope nm_count_behind ["self", "seeker", "level"] (defScope s_count_behind) :=
  ⟨rfl, rfl, rfl, by decide +kernel, rfl, by decide +kernel, by decide +kernel⟩
abbrev nm_beat : List Str := ["self", "levels", "was_alarmed", "seeker", "level", "full", "count"]
theorem sc_beat : FnScope nm_beat ["self", "levels"] (defScope s_beat) :=
  ⟨rfl, rfl, rfl, by decide +kernel, rfl, by decide +kernel, by decide +kernel⟩
abbrev nm_copied : List Str := ["self", "fresh"]
theorem sc_copied : FnScope nm_copied ["self"] (defScope s_copied) :=
  ⟨rfl, rfl, rfl, by decide +kernel, rfl, by decide +kernel, by decide +kernel⟩
abbrev nm_tried : List Str := ["panel", "faults", "beats", "trial", "fault", "levels"]
theorem sc_tried : FnScope nm_tried ["panel", "faults", "beats"] (defScope s_tried) :=
  ⟨rfl, rfl, rfl, by decide +kernel, rfl, by decide +kernel, by decide +kernel⟩
abbrev nm_first_warning : List Str := ["house", "beats", "faults", "panel", "fault", "index", "levels"]
theorem sc_first_warning : FnScope nm_first_warning ["house", "beats", "faults"] (defScope s_first_warning) :=
  ⟨rfl, rfl, rfl, by decide +kernel, rfl, by decide +kernel, by decide +kernel⟩
abbrev nm_false_levels : List Str := ["house", "faults", "heard", "raised", "levels", "seeker"]
theorem sc_false_levels : FnScope nm_false_levels ["house", "faults"] (defScope s_false_levels) :=
  ⟨rfl, rfl, rfl, by decide +kernel, rfl, by decide +kernel, by decide +kernel⟩
abbrev nm_open : List Str := ["_law_script"]
theorem sc_open : FnScope nm_open ["_law_script"] (defScope s_open) :=
  ⟨rfl, rfl, rfl, by decide +kernel, rfl, by decide +kernel, by decide +kernel⟩
abbrev nm_draw : List Str := ["_law_state", "_law_many", "_law_cell", "_law_digit"]
theorem sc_draw : FnScope nm_draw ["_law_state", "_law_many"] (defScope s_draw) :=
  ⟨rfl, rfl, rfl, by decide +kernel, rfl, by decide +kernel, by decide +kernel⟩
abbrev nm_text : List Str := ["_law_state", "_law_many", "_law_share", "_law_text_here", "_law_k", "_law_at"]
theorem sc_text : FnScope nm_text ["_law_state"] (defScope s_text) :=
  ⟨rfl, rfl, rfl, by decide +kernel, rfl, by decide +kernel, by decide +kernel⟩
abbrev nm_faults : List Str := ["_law_state", "_law_text_here", "_law_many", "_law_faults_here", "_law_k"]
theorem sc_faults : FnScope nm_faults ["_law_state", "_law_text_here", "_law_many"] (defScope s_faults) :=
  ⟨rfl, rfl, rfl, by decide +kernel, rfl, by decide +kernel, by decide +kernel⟩
abbrev nm_zone : List Str := ["_law_text_here", "_law_stretch", "_law_sign"]
theorem sc_zone : FnScope nm_zone ["_law_text_here", "_law_stretch"] (defScope s_zone) :=
  ⟨rfl, rfl, rfl, by decide +kernel, rfl, by decide +kernel, by decide +kernel⟩
abbrev nm_open_at : List Str := ["_law_text_here", "_law_faults_here", "_law_stretch", "_law_fault"]
theorem sc_open_at : FnScope nm_open_at ["_law_text_here", "_law_faults_here", "_law_stretch"] (defScope s_open_at) :=
  ⟨rfl, rfl, rfl, by decide +kernel, rfl, by decide +kernel, by decide +kernel⟩
abbrev nm_passed : List Str := ["_law_text_here", "_law_faults_here", "_law_stretches", "_law_k"]
theorem sc_passed : FnScope nm_passed ["_law_text_here", "_law_faults_here", "_law_stretches"] (defScope s_passed) :=
  ⟨rfl, rfl, rfl, by decide +kernel, rfl, by decide +kernel, by decide +kernel⟩
abbrev nm_spots : List Str := ["_law_text_here", "_law_at"]
theorem sc_spots : FnScope nm_spots ["_law_text_here"] (defScope s_spots) :=
  ⟨rfl, rfl, rfl, by decide +kernel, rfl, by decide +kernel, by decide +kernel⟩
abbrev nm_heard : List Str := ["_law_text_here", "_law_faults_here", "_law_spots_here", "_law_found", "_law_seeker", "_law_left", "_law_right"]
theorem sc_heard : FnScope nm_heard ["_law_text_here", "_law_faults_here"] (defScope s_heard) :=
  ⟨rfl, rfl, rfl, by decide +kernel, rfl, by decide +kernel, by decide +kernel⟩
abbrev nm_levels : List Str := ["_law_state", "_law_bar", "_law_many", "_law_levels_here", "_law_hot", "_law_k", "_law_kind"]
theorem sc_levels : FnScope nm_levels ["_law_state", "_law_bar", "_law_many"] (defScope s_levels) :=
  ⟨rfl, rfl, rfl, by decide +kernel, rfl, by decide +kernel, by decide +kernel⟩
abbrev nm_step : List Str := ["_law_plan", "_law_faults_here", "_law_counts", "_law_alarmed", "_law_levels_here", "_law_text_here", "_law_bar", "_law_steps", "_law_least_here", "_law_ears", "_law_after", "_law_k", "_law_now", "_law_one"]
theorem sc_step : FnScope nm_step ["_law_plan", "_law_faults_here", "_law_counts", "_law_alarmed", "_law_levels_here"] (defScope s_step) :=
  ⟨rfl, rfl, rfl, by decide +kernel, rfl, by decide +kernel, by decide +kernel⟩
abbrev nm_ordered : List Str := ["_law_text_here", "_law_faults_here", "_law_pairs", "_law_k", "_law_pair"]
theorem sc_ordered : FnScope nm_ordered ["_law_text_here", "_law_faults_here"] (defScope s_ordered) :=
  ⟨rfl, rfl, rfl, by decide +kernel, rfl, by decide +kernel, by decide +kernel⟩
abbrev nm_same : List Str := ["_law_panel", "_law_plan", "_law_model", "_law_faults_here", "_law_counts", "_law_alarmed"]
theorem sc_same : FnScope nm_same ["_law_panel", "_law_plan", "_law_model"] (defScope s_same) :=
  ⟨rfl, rfl, rfl, by decide +kernel, rfl, by decide +kernel, by decide +kernel⟩
abbrev nm_run : List Str := ["_law_plan", "_law_model", "_law_faults_here", "_law_beats", "_law_both", "_law_counts", "_law_alarmed", "_law_told", "_law_levels_here", "_law_warns"]
theorem sc_run : FnScope nm_run ["_law_plan", "_law_model", "_law_faults_here", "_law_beats"] (defScope s_run) :=
  ⟨rfl, rfl, rfl, by decide +kernel, rfl, by decide +kernel, by decide +kernel⟩
abbrev nm_ltried : List Str := ["_law_panel", "_law_faults_here", "_law_beats", "_law_told", "e"]
theorem sc_ltried : FnScope nm_ltried ["_law_panel", "_law_faults_here", "_law_beats"] (defScope s_ltried) :=
  ⟨rfl, rfl, rfl, by decide +kernel, rfl, by decide +kernel, by decide +kernel⟩
abbrev nm_trial : List Str := ["_law_state", "_law_panel", "_law_plan", "_law_model", "_law_many", "_law_faults_here", "_law_beats", "_law_k", "_law_due", "_law_told", "_law_levels_here", "_law_warns", "_law_kind", "_law_at", "_law_row"]
theorem sc_trial : FnScope nm_trial ["_law_state", "_law_panel", "_law_plan", "_law_model"] (defScope s_trial) :=
  ⟨rfl, rfl, rfl, by decide +kernel, rfl, by decide +kernel, by decide +kernel⟩
abbrev nm_wrong : List Str := ["_law_state", "_law_panel", "_law_plan", "_law_model", "_law_kind", "_law_many", "_law_told", "_law_due", "e"]
theorem sc_wrong : FnScope nm_wrong ["_law_state", "_law_panel", "_law_plan", "_law_model"] (defScope s_wrong) :=
  ⟨rfl, rfl, rfl, by decide +kernel, rfl, by decide +kernel, by decide +kernel⟩
abbrev nm_mended : List Str := ["_law_panel", "_law_fault", "_law_told", "e"]
theorem sc_mended : FnScope nm_mended ["_law_panel", "_law_fault"] (defScope s_mended) :=
  ⟨rfl, rfl, rfl, by decide +kernel, rfl, by decide +kernel, by decide +kernel⟩
abbrev nm_deed : List Str := ["_law_state", "_law_panel", "_law_plan", "_law_model", "_law_kind", "_law_fault", "_law_other", "_law_levels_here", "_law_warns", "_law_counts", "_law_alarmed", "_law_told"]
theorem sc_deed : FnScope nm_deed ["_law_state", "_law_panel", "_law_plan", "_law_model"] (defScope s_deed) :=
  ⟨rfl, rfl, rfl, by decide +kernel, rfl, by decide +kernel, by decide +kernel⟩
abbrev nm_silent : List Str := ["_law_house", "_law_bad", "_law_told", "e"]
theorem sc_silent : FnScope nm_silent ["_law_house", "_law_bad"] (defScope s_silent) :=
  ⟨rfl, rfl, rfl, by decide +kernel, rfl, by decide +kernel, by decide +kernel⟩
abbrev nm_left_out : List Str := ["_law_state", "_law_house", "_law_plan", "_law_beats", "_law_bad", "_law_row", "_law_k"]
theorem sc_left_out : FnScope nm_left_out ["_law_state", "_law_house", "_law_plan", "_law_beats"] (defScope s_left_out) :=
  ⟨rfl, rfl, rfl, by decide +kernel, rfl, by decide +kernel, by decide +kernel⟩
abbrev nm_least : List Str := ["_law_state", "_law_house", "_law_plan", "_law_text_here", "_law_bar", "_law_steps", "_law_least_here", "_law_faults_here", "_law_ears", "_law_told", "_law_row", "_law_k", "_law_beats", "_law_levels_here", "_law_at"]
theorem sc_least : FnScope nm_least ["_law_state", "_law_house", "_law_plan"] (defScope s_least) :=
  ⟨rfl, rfl, rfl, by decide +kernel, rfl, by decide +kernel, by decide +kernel⟩
abbrev nm_law : List Str := ["_law_script", "_law_state", "_law_text_here", "_law_many", "_law_least_here", "_law_bar", "_law_steps", "_law_house", "_law_plan", "_law_first", "_law_second", "_law_one", "_law_two", "_law_turn", "_law_faults_here", "_law_beats", "_law_k", "_law_warned", "_law_due"]
theorem sc_law : FnScope nm_law ["_law_script"] (defScope s_law) :=
  ⟨rfl, rfl, rfl, by decide +kernel, rfl, by decide +kernel, by decide +kernel⟩
set_option genInjectivity false in
set_option genSizeOf false in
set_option genSizeOfSpec false in
structure Txt (K : PySem.W.Frag) (mg : Str → Option Value) where
  C : Addr
  HC : Addr
  PC : Addr
  gC : mg "Ring" = some (.ref C)
  clC : Cls K C
  nT : NoAttr K C "text"
  nS : NoAttr K C "seekers"
  nZ : NoAttr K C "zones"
  gHC : mg "House" = some (.ref HC)
  clHC : Cls K HC
  nBo : NoAttr K HC "box"
  nRi : NoAttr K HC "ring"
  nMa : NoAttr K HC "mark"
  nRo : NoAttr K HC "rows"
  nNe : NoAttr K HC "need"
  nLa : NoAttr K HC "layout"
  nSk : NoAttr K HC "seekers"
  isi : SlX.SIsi K HC
  kS : PySem.W.kitOne K (.ref HC) (.ref HC) = some true
  sfC : PySem.W.notFirst K HC (.ref HC) = true
  gPC : mg "Panel" = some (.ref PC)
  clPC : Cls K PC
  nHo : NoAttr K PC "house"
  nFa : NoAttr K PC "faults"
  nHe : NoAttr K PC "heard"
  nCo : NoAttr K PC "counts"
  nAl : NoAttr K PC "alarmed"
  CH : Addr
  fH : Addr
  lowH : PySem.LowH.LowTxt K mg CH fH
  CR : Addr
  fR : Addr
  lowR : PySem.LowR.LowTxt K mg CR fR
  CF : Addr
  fF : Addr
  lowF : PySem.LowF.LowTxt K mg CF fF
  CN : Addr
  fN : Addr
  lowN : PySem.LowN.LowTxt K mg CN fN
  CV : Addr
  fV : Addr
  lowV : PySem.LowV.LowTxt K mg CV fV
  xVF : PySem.W.exmOne K (.ref CV) (.ref CF) = some false
  eF : Addr
  eFt : ∀ H, SqT K H eF []
  eL : Addr
  eLt : ∀ H, SqT K H eL []
  a_is_whole : Addr
  d_is_whole : FuncData
  F_is_whole : Fun K "is_whole" "is_whole" s_is_whole a_is_whole d_is_whole
  b_is_whole : Binds K d_is_whole ["thing"] []
  g_is_whole : mg "is_whole" = some (.ref a_is_whole)
  a_is_whole_within : Addr
  d_is_whole_within : FuncData
  F_is_whole_within : Fun K "is_whole_within" "is_whole_within" s_is_whole_within a_is_whole_within d_is_whole_within
  b_is_whole_within : Binds K d_is_whole_within ["thing", "low", "high"] []
  g_is_whole_within : mg "is_whole_within" = some (.ref a_is_whole_within)
  a_is_number : Addr
  d_is_number : FuncData
  F_is_number : Fun K "is_number" "is_number" s_is_number a_is_number d_is_number
  b_is_number : Binds K d_is_number ["thing"] []
  g_is_number : mg "is_number" = some (.ref a_is_number)
  a_is_ring_text : Addr
  d_is_ring_text : FuncData
  F_is_ring_text : Fun K "is_ring_text" "is_ring_text" s_is_ring_text a_is_ring_text d_is_ring_text
  b_is_ring_text : Binds K d_is_ring_text ["thing"] []
  g_is_ring_text : mg "is_ring_text" = some (.ref a_is_ring_text)
  a_zones_of : Addr
  d_zones_of : FuncData
  F_zones_of : Fun K "zones_of" "zones_of" s_zones_of a_zones_of d_zones_of
  b_zones_of : Binds K d_zones_of ["text"] []
  g_zones_of : mg "zones_of" = some (.ref a_zones_of)
  a_init : Addr
  d_init : FuncData
  F_init : Fun K "__init__" "Ring.__init__" s_init a_init d_init
  b_init : Binds K d_init ["self", "text"] []
  mk_init : Mk K C a_init
  a_all_faults : Addr
  d_all_faults : FuncData
  F_all_faults : Fun K "all_faults" "Ring.all_faults" s_all_faults a_all_faults d_all_faults
  b_all_faults : Binds K d_all_faults ["self"] []
  m_all_faults : Meth K C "all_faults" a_all_faults
  a_check_fault : Addr
  d_check_fault : FuncData
  F_check_fault : Fun K "check_fault" "Ring.check_fault" s_check_fault a_check_fault d_check_fault
  b_check_fault : Binds K d_check_fault ["self", "thing"] []
  m_check_fault : Meth K C "check_fault" a_check_fault
  a_check_faults : Addr
  d_check_faults : FuncData
  F_check_faults : Fun K "check_faults" "Ring.check_faults" s_check_faults a_check_faults d_check_faults
  b_check_faults : Binds K d_check_faults ["self", "faults"] []
  m_check_faults : Meth K C "check_faults" a_check_faults
  a_zone_of : Addr
  d_zone_of : FuncData
  F_zone_of : Fun K "zone_of" "Ring.zone_of" s_zone_of a_zone_of d_zone_of
  b_zone_of : Binds K d_zone_of ["self", "stretch"] []
  m_zone_of : Meth K C "zone_of" a_zone_of
  a_closed_stretches : Addr
  d_closed_stretches : FuncData
  F_closed_stretches : Fun K "closed_stretches" "Ring.closed_stretches" s_closed_stretches a_closed_stretches d_closed_stretches
  b_closed_stretches : Binds K d_closed_stretches ["self", "faults"] []
  m_closed_stretches : Meth K C "closed_stretches" a_closed_stretches
  a_passed_from : Addr
  d_passed_from : FuncData
  F_passed_from : Fun K "passed_from" "Ring.passed_from" s_passed_from a_passed_from d_passed_from
  b_passed_from : Binds K d_passed_from ["self", "end", "faults"] []
  m_passed_from : Meth K C "passed_from" a_passed_from
  a_reached : Addr
  d_reached : FuncData
  F_reached : Fun K "reached" "Ring.reached" s_reached a_reached d_reached
  b_reached : Binds K d_reached ["self", "faults"] []
  m_reached : Meth K C "reached" a_reached
  a_hinit : Addr
  d_hinit : FuncData
  F_hinit : FunD K "__init__" "House.__init__" (defArgs s_hinit) (defBody s_hinit) (defScope s_hinit) [] [("need", V.int 1)] a_hinit d_hinit
  mk_hinit : Mk K HC a_hinit
  a_heq : Addr
  d_heq : FuncData
  F_heq : Fun K "__eq__" "House.__eq__" s_heq a_heq d_heq
  b_heq : Binds K d_heq ["self", "other"] []
  m_heq : Meth K HC "__eq__" a_heq
  a_is_silent : Addr
  d_is_silent : FuncData
  F_is_silent : Fun K "is_silent" "House.is_silent" s_is_silent a_is_silent d_is_silent
  m_is_silent : Meth K HC "is_silent" a_is_silent
  a_set_faults : Addr
  d_set_faults : FuncData
  F_set_faults : Fun K "set_faults" "Panel.set_faults" s_set_faults a_set_faults d_set_faults
  b_set_faults : Binds K d_set_faults ["self", "faults"] []
  m_set_faults : Meth K PC "set_faults" a_set_faults
  a_reset : Addr
  d_reset : FuncData
  F_reset : Fun K "reset" "Panel.reset" s_reset a_reset d_reset
  b_reset : Binds K d_reset ["self"] []
  m_reset : Meth K PC "reset" a_reset
  a_pinit : Addr
  d_pinit : FuncData
  F_pinit : Fun K "__init__" "Panel.__init__" s_pinit a_pinit d_pinit
  b_pinit : Binds K d_pinit ["self", "house"] []
  mk_pinit : Mk K PC a_pinit
  a_put_fault : Addr
  d_put_fault : FuncData
  F_put_fault : Fun K "put_fault" "Panel.put_fault" s_put_fault a_put_fault d_put_fault
  b_put_fault : Binds K d_put_fault ["self", "fault"] []
  m_put_fault : Meth K PC "put_fault" a_put_fault
  a_mend_fault : Addr
  d_mend_fault : FuncData
  F_mend_fault : Fun K "mend_fault" "Panel.mend_fault" s_mend_fault a_mend_fault d_mend_fault
  b_mend_fault : Binds K d_mend_fault ["self", "fault"] []
  m_mend_fault : Meth K PC "mend_fault" a_mend_fault
  a_check_levels : Addr
  d_check_levels : FuncData
  F_check_levels : Fun K "check_levels" "check_levels" s_check_levels a_check_levels d_check_levels
  b_check_levels : Binds K d_check_levels ["house", "levels"] []
  g_check_levels : mg "check_levels" = some (.ref a_check_levels)
  a_count_behind : Addr
  d_count_behind : FuncData
  F_count_behind : Fun K "count_behind" "Panel.count_behind" s_count_behind a_count_behind d_count_behind
  b_count_behind : Binds K d_count_behind ["self", "seeker", "level"] []
  m_count_behind : Meth K PC "count_behind" a_count_behind
  a_beat : Addr
  d_beat : FuncData
  F_beat : Fun K "beat" "Panel.beat" s_beat a_beat d_beat
  b_beat : Binds K d_beat ["self", "levels"] []
  m_beat : Meth K PC "beat" a_beat
  a_copied : Addr
  d_copied : FuncData
  F_copied : Fun K "copied" "Panel.copied" s_copied a_copied d_copied
  b_copied : Binds K d_copied ["self"] []
  m_copied : Meth K PC "copied" a_copied
  a_tried : Addr
  d_tried : FuncData
  F_tried : Fun K "tried" "tried" s_tried a_tried d_tried
  b_tried : Binds K d_tried ["panel", "faults", "beats"] []
  g_tried : mg "tried" = some (.ref a_tried)
  a_first_warning : Addr
  d_first_warning : FuncData
  F_first_warning : FunD K "first_warning" "first_warning" (defArgs s_first_warning) (defBody s_first_warning) (defScope s_first_warning) [V.ref eF] [] a_first_warning d_first_warning
  b_first_warning : Binds K d_first_warning ["house", "beats", "faults"] []
  g_first_warning : mg "first_warning" = some (.ref a_first_warning)
  a_false_levels : Addr
  d_false_levels : FuncData
  F_false_levels : FunD K "false_levels" "false_levels" (defArgs s_false_levels) (defBody s_false_levels) (defScope s_false_levels) [V.ref eL] [] a_false_levels d_false_levels
  b_false_levels : Binds K d_false_levels ["house", "faults"] []
  g_false_levels : mg "false_levels" = some (.ref a_false_levels)
  a_open : Addr
  d_open : FuncData
  F_open : Fun K "_law_open" "_law_open" s_open a_open d_open
  b_open : Binds K d_open ["_law_script"] []
  g_open : mg "_law_open" = some (.ref a_open)
  a_draw : Addr
  d_draw : FuncData
  F_draw : Fun K "_law_draw" "_law_draw" s_draw a_draw d_draw
  b_draw : Binds K d_draw ["_law_state", "_law_many"] []
  g_draw : mg "_law_draw" = some (.ref a_draw)
  a_text : Addr
  d_text : FuncData
  F_text : Fun K "_law_text" "_law_text" s_text a_text d_text
  b_text : Binds K d_text ["_law_state"] []
  g_text : mg "_law_text" = some (.ref a_text)
  a_faults : Addr
  d_faults : FuncData
  F_faults : Fun K "_law_faults" "_law_faults" s_faults a_faults d_faults
  b_faults : Binds K d_faults ["_law_state", "_law_text_here", "_law_many"] []
  g_faults : mg "_law_faults" = some (.ref a_faults)
  a_zone : Addr
  d_zone : FuncData
  F_zone : Fun K "_law_zone" "_law_zone" s_zone a_zone d_zone
  b_zone : Binds K d_zone ["_law_text_here", "_law_stretch"] []
  g_zone : mg "_law_zone" = some (.ref a_zone)
  a_open_at : Addr
  d_open_at : FuncData
  F_open_at : Fun K "_law_open_at" "_law_open_at" s_open_at a_open_at d_open_at
  b_open_at : Binds K d_open_at ["_law_text_here", "_law_faults_here", "_law_stretch"] []
  g_open_at : mg "_law_open_at" = some (.ref a_open_at)
  a_passed : Addr
  d_passed : FuncData
  F_passed : Fun K "_law_passed" "_law_passed" s_passed a_passed d_passed
  b_passed : Binds K d_passed ["_law_text_here", "_law_faults_here", "_law_stretches"] []
  g_passed : mg "_law_passed" = some (.ref a_passed)
  a_spots : Addr
  d_spots : FuncData
  F_spots : Fun K "_law_spots" "_law_spots" s_spots a_spots d_spots
  b_spots : Binds K d_spots ["_law_text_here"] []
  g_spots : mg "_law_spots" = some (.ref a_spots)
  a_heard : Addr
  d_heard : FuncData
  F_heard : Fun K "_law_heard" "_law_heard" s_heard a_heard d_heard
  b_heard : Binds K d_heard ["_law_text_here", "_law_faults_here"] []
  g_heard : mg "_law_heard" = some (.ref a_heard)
  a_levels : Addr
  d_levels : FuncData
  F_levels : Fun K "_law_levels" "_law_levels" s_levels a_levels d_levels
  b_levels : Binds K d_levels ["_law_state", "_law_bar", "_law_many"] []
  g_levels : mg "_law_levels" = some (.ref a_levels)
  a_step : Addr
  d_step : FuncData
  F_step : Fun K "_law_step" "_law_step" s_step a_step d_step
  b_step : Binds K d_step ["_law_plan", "_law_faults_here", "_law_counts", "_law_alarmed", "_law_levels_here"] []
  g_step : mg "_law_step" = some (.ref a_step)
  a_ordered : Addr
  d_ordered : FuncData
  F_ordered : Fun K "_law_ordered" "_law_ordered" s_ordered a_ordered d_ordered
  b_ordered : Binds K d_ordered ["_law_text_here", "_law_faults_here"] []
  g_ordered : mg "_law_ordered" = some (.ref a_ordered)
  a_same : Addr
  d_same : FuncData
  F_same : Fun K "_law_same" "_law_same" s_same a_same d_same
  b_same : Binds K d_same ["_law_panel", "_law_plan", "_law_model"] []
  g_same : mg "_law_same" = some (.ref a_same)
  a_run : Addr
  d_run : FuncData
  F_run : Fun K "_law_run" "_law_run" s_run a_run d_run
  b_run : Binds K d_run ["_law_plan", "_law_model", "_law_faults_here", "_law_beats"] []
  g_run : mg "_law_run" = some (.ref a_run)
  a_ltried : Addr
  d_ltried : FuncData
  F_ltried : Fun K "_law_tried" "_law_tried" s_ltried a_ltried d_ltried
  b_ltried : Binds K d_ltried ["_law_panel", "_law_faults_here", "_law_beats"] []
  g_ltried : mg "_law_tried" = some (.ref a_ltried)
  a_trial : Addr
  d_trial : FuncData
  F_trial : Fun K "_law_trial" "_law_trial" s_trial a_trial d_trial
  b_trial : Binds K d_trial ["_law_state", "_law_panel", "_law_plan", "_law_model"] []
  g_trial : mg "_law_trial" = some (.ref a_trial)
  a_wrong : Addr
  d_wrong : FuncData
  F_wrong : Fun K "_law_wrong" "_law_wrong" s_wrong a_wrong d_wrong
  b_wrong : Binds K d_wrong ["_law_state", "_law_panel", "_law_plan", "_law_model"] []
  g_wrong : mg "_law_wrong" = some (.ref a_wrong)
  a_mended : Addr
  d_mended : FuncData
  F_mended : Fun K "_law_mended" "_law_mended" s_mended a_mended d_mended
  b_mended : Binds K d_mended ["_law_panel", "_law_fault"] []
  g_mended : mg "_law_mended" = some (.ref a_mended)
  a_deed : Addr
  d_deed : FuncData
  F_deed : Fun K "_law_deed" "_law_deed" s_deed a_deed d_deed
  b_deed : Binds K d_deed ["_law_state", "_law_panel", "_law_plan", "_law_model"] []
  g_deed : mg "_law_deed" = some (.ref a_deed)
  a_silent : Addr
  d_silent : FuncData
  F_silent : Fun K "_law_silent" "_law_silent" s_silent a_silent d_silent
  b_silent : Binds K d_silent ["_law_house", "_law_bad"] []
  g_silent : mg "_law_silent" = some (.ref a_silent)
  a_left_out : Addr
  d_left_out : FuncData
  F_left_out : Fun K "_law_left_out" "_law_left_out" s_left_out a_left_out d_left_out
  b_left_out : Binds K d_left_out ["_law_state", "_law_house", "_law_plan", "_law_beats"] []
  g_left_out : mg "_law_left_out" = some (.ref a_left_out)
  a_least : Addr
  d_least : FuncData
  F_least : Fun K "_law_least" "_law_least" s_least a_least d_least
  b_least : Binds K d_least ["_law_state", "_law_house", "_law_plan"] []
  g_least : mg "_law_least" = some (.ref a_least)
  a_law : Addr
  d_law : FuncData
  F_law : Fun K "law" "law" s_law a_law d_law
  b_law : Binds K d_law ["_law_script"] []
  g_law : mg "law" = some (.ref a_law)
  t_DIGITS : Tok
  c_DIGITS : mg "DIGITS" = some (.str "123456789" t_DIGITS)
  t_MOST_DIGITS : Tok
  c_MOST_DIGITS : mg "MOST_DIGITS" = some (.int 4 t_MOST_DIGITS)
  t_GREATEST_SUM : Tok
  c_GREATEST_SUM : mg "GREATEST_SUM" = some (.int 24 t_GREATEST_SUM)
  t_MOST_SIGNS : Tok
  c_MOST_SIGNS : mg "MOST_SIGNS" = some (.int 10 t_MOST_SIGNS)
  t_SEEKER : Tok
  c_SEEKER : mg "SEEKER" = some (.str "s" t_SEEKER)
  t_OPENER : Tok
  c_OPENER : mg "OPENER" = some (.str "o" t_OPENER)
  t_CUT : Tok
  c_CUT : mg "CUT" = some (.str "cut" t_CUT)
  t_SHORT : Tok
  c_SHORT : mg "SHORT" = some (.str "short" t_SHORT)
  t_LEFT : Tok
  c_LEFT : mg "LEFT" = some (.str "left" t_LEFT)
  t_RIGHT : Tok
  c_RIGHT : mg "RIGHT" = some (.str "right" t_RIGHT)
  t_MOST_ROWS : Tok
  c_MOST_ROWS : mg "MOST_ROWS" = some (.int 8 t_MOST_ROWS)
  z_abs : mg "abs" = none
  z_all : mg "all" = none
  z_bool : mg "bool" = none
  z_enumerate : mg "enumerate" = none
  z_int : mg "int" = none
  z_isinstance : mg "isinstance" = none
  z_len : mg "len" = none
  z_list : mg "list" = none
  z_range : mg "range" = none
  z_set : mg "set" = none
  z_sorted : mg "sorted" = none
  z_str : mg "str" = none
  z_sum : mg "sum" = none
  z_tuple : mg "tuple" = none
  aEq : PySem.W.findIn K (.ref HC) (cmpInfo .Eq).2.1 = some (some (.ref a_heq))
  iEq : PySem.W.isFn K (.ref a_heq) = true
  kbH3 : KBn K d_hinit ["self", "box", "ring", "mark", "rows", "need"] 3 ["mark", "rows", "need"] (fun us ws => us ++ ws) (fun vs zs => vs ++ zs)
  b0_first_warning : Binds K d_first_warning ["house", "beats", "faults"] [Value.ref eF]
  b0_false_levels : Binds K d_false_levels ["house", "faults"] [Value.ref eL]
end K52

/-! The promises. -/
namespace K52
open PySem L2 Wm Dv Rm Lo
def wdS (b : Bool) : Str := if b then "cut" else "short"
def ftD (f : Ft) : PyData := .tuple [.str (wdS f.1), .int ((f.2 : Nat) : Int)]
def natsD (z : List Nat) : PyData := .tuple (z.map fun n => PyData.int ((n : Nat) : Int))
def zonesD (l : List Bool) : PyData := .tuple ((zones l).map natsD)
def nV (z : List Nat) : List V := z.map fun n => V.int ((n : Nat) : Int)
def RingAt (K : PySem.W.Frag) (C : Addr) (H : Hp) (p : Addr) (l : List Bool) : Prop :=
  ∃ dx fs y, H p = some (.ins C dx fs) ∧ fs.lookup ("text" : Str) = some (.str (rgS l)) ∧ fs.lookup ("seekers" : Str) = some (.int ((l.count true : Nat) : Int)) ∧ fs.lookup ("zones" : Str) = some y ∧
    (∀ m : Str, m ≠ "text" → m ≠ "seekers" → m ≠ "zones" → fs.lookup m = none) ∧ Dt K H y (zonesD l)
/-- what may be asked whether it is a whole number, and which -/
inductive Thing (K : PySem.W.Frag) (H : Hp) : V → Option Int → Prop
  | int (i : Int) : Thing K H (.int i) (some i)
  | bl (b : Bool) : Thing K H (.bl b) none
  | str (s : Str) : Thing K H (.str s) none
  | non : Thing K H .non none
  | emp {p : Addr} : SqT K H p [] → Thing K H (.ref p) none
def within (lo hi : Int) : Option Int → Bool
  | some i => decide (lo ≤ i) && decide (i ≤ hi)
  | none => false
def Er (C : Addr) (f : Str) (E : XK) (H : Hp) (x : V) : Prop := ∀ H' d, Same H H' → H' d = some (.xd [(f, x)]) → E (.ref C) (some d) H'
theorem Er.after {C : Addr} {f : Str} {E : XK} {H H1 : Hp} {x : V} (h : Er C f E H x) (s : Same H H1) : Er C f E H1 x := fun H' d s' e => h H' d (s.trans s') e
def sp_is_whole (K : PySem.W.Frag) : Sp := fun vs H Q _ => ∃ x o, vs = [x] ∧ Thing K H x o ∧ Q (.bl o.isSome) H
def sp_is_whole_within (K : PySem.W.Frag) : Sp := fun vs H Q _ => ∃ x o, ∃ lo hi : Int, vs = [x, .int lo, .int hi] ∧ Thing K H x o ∧ Q (.bl (within lo hi o)) H
/-- no text -/
def NoStr (K : PySem.W.Frag) (H : Hp) (x : V) : Prop := ∃ T : String, (∀ H', Same H H' → TyX K H' x (.type T)) ∧ PySem.W.kitOne K (.type T) (.type "str") = some false
def sp_is_ring_text (K : PySem.W.Frag) : Sp := fun vs H Q _ => ∃ x, vs = [x] ∧ ((∃ t : Str, x = .str t ∧ t.length ≤ 100 ∧ ∀ H' b, Same H H' → (b = true ↔ IsRing t) → Q (.bl b) H') ∨ (NoStr K H x ∧ Q (.bl false) H))
def sp_zones_of (K : PySem.W.Frag) : Sp := fun vs H Q _ => ∃ l : List Bool, vs = [.str (rgS l)] ∧ l.length ≤ 10 ∧ ∀ H' y, Same H H' → Dt K H' y (zonesD l) → Q y H'
def sp_init (K : PySem.W.Frag) (C CR : Addr) : Sp := fun vs H Q E => ∃ (p dx : Addr) (x : V), vs = [.ref p, x] ∧ H p = some (.ins C dx []) ∧
  ((∃ l, x = .str (rgS l) ∧ Ri l ∧ ∀ H', (∀ q o, q ≠ p → H q = some o → H' q = some o) → RingAt K C H' p l → Q .non H') ∨
   (((∃ t : Str, x = .str t ∧ t.length ≤ 100 ∧ ¬ IsRing t) ∨ NoStr K H x) ∧ Er CR "text" E H x))
def sp_all_faults (K : PySem.W.Frag) (C : Addr) : Sp := fun vs H Q _ => ∃ (p : Addr) (l : List Bool), vs = [.ref p] ∧ RingAt K C H p l ∧ l.length ≤ 10 ∧ ∀ H' y, Same H H' → Dt K H' y (.tuple ((allF (l.length + 1)).map ftD)) → Q y H'
/-- no fault of a ring of n signs -/
inductive Odd (K : PySem.W.Frag) (H : Hp) (n : Nat) : V → Prop
  | non : Odd K H n .non
  | int (i : Int) : Odd K H n (.int i)
  | lst {p : Addr} {xs : List V} : SqL K H p xs → Odd K H n (.ref p)
  | len {p : Addr} {xs : List V} : SqT K H p xs → xs.length ≠ 2 → Odd K H n (.ref p)
  | fst {p : Addr} {a b : V} : SqT K H p [a, b] → flatV a = true → inV a [V.str "cut", V.str "short"] = false → Odd K H n (.ref p)
  | snd {p : Addr} {a b : V} {o : Option Int} : SqT K H p [a, b] → flatV a = true → Thing K H b o → within 0 n o = false → Odd K H n (.ref p)
theorem Thing.k {K : PySem.W.Frag} {H H' : Hp} {x : V} {o : Option Int} (h : Thing K H x o) (s : Same H H') : Thing K H' x o := by
  cases h with
  | int i => exact .int i
  | bl b => exact .bl b
  | str b => exact .str b
  | non => exact .non
  | emp q => exact .emp (sameT s q)
theorem Odd.k {K : PySem.W.Frag} {H H' : Hp} {n : Nat} {x : V} (h : Odd K H n x) (s : Same H H') : Odd K H' n x := by
  cases h with
  | non => exact .non
  | int i => exact .int i
  | lst h => exact .lst (Hf.keepL s h)
  | len h e => exact .len (sameT s h) e
  | fst h a b => exact .fst (sameT s h) a b
  | snd h a t b => exact .snd (sameT s h) a (t.k s) b
/-- faults as a list or a tuple -/
def FtsAt (K : PySem.W.Frag) (H : Hp) (q : Addr) (fs : List Ft) : Prop := ∃ t xs, Kd.Is K t H q xs ∧ Dts K H xs (fs.map ftD)
theorem FtsAt.k {K : PySem.W.Frag} {H H' : Hp} {q : Addr} {fs : List Ft} (h : FtsAt K H q fs) (s : Same H H') : FtsAt K H' q fs := by
  obtain ⟨t, xs, a, b⟩ := h
  exact ⟨t, xs, a.keep s, b.k (Kt.same s)⟩
/-- all of them are stretches of n signs -/
def FOk (n : Nat) (fs : List Ft) : Prop := fs.length ≤ 30 ∧ ∀ f ∈ fs, f.2 ≤ n
/-- a row whose first odd one is x -/
def MixAt (K : PySem.W.Frag) (H : Hp) (q : Addr) (n : Nat) (x : V) : Prop := ∃ (t : Bool) (pre post : List V) (fs : List Ft), Kd.Is K t H q (pre ++ x :: post) ∧ Dts K H pre (fs.map ftD) ∧ FOk n fs ∧ Odd K H n x
theorem MixAt.k {K : PySem.W.Frag} {H H' : Hp} {q : Addr} {n : Nat} {x : V} (h : MixAt K H q n x) (s : Same H H') : MixAt K H' q n x := by
  obtain ⟨t, pre, post, fs, a, b, c, d⟩ := h
  exact ⟨t, pre, post, fs, a.keep s, b.k (Kt.same s), c, d.k s⟩
def sp_check_fault (K : PySem.W.Frag) (C CF : Addr) : Sp := fun vs H Q E => ∃ (p : Addr) (x : V) (l : List Bool), vs = [.ref p, x] ∧ RingAt K C H p l ∧ l.length ≤ 10 ∧
  ((∃ f : Ft, Dt K H x (ftD f) ∧ f.2 ≤ l.length ∧ ∀ H', Same H H' → Q .non H') ∨ (Odd K H l.length x ∧ Er CF "fault" E H x))
def sp_check_faults (K : PySem.W.Frag) (C CF : Addr) : Sp := fun vs H Q E => ∃ (p q : Addr) (l : List Bool), vs = [.ref p, .ref q] ∧ RingAt K C H p l ∧ l.length ≤ 10 ∧
  ((∃ fs, FtsAt K H q fs ∧ FOk l.length fs ∧ ∀ H', Same H H' → Q .non H') ∨ ∃ x, MixAt K H q l.length x ∧ Er CF "fault" E H x)
def sp_zone_of (K : PySem.W.Frag) (C : Addr) : Sp := fun vs H Q _ => ∃ (p : Addr) (k : Nat) (l : List Bool), vs = [.ref p, .int ((k : Nat) : Int)] ∧ RingAt K C H p l ∧ l.length ≤ 10 ∧ Q (.int ((zone l k : Nat) : Int)) H
def sp_closed_stretches (K : PySem.W.Frag) (C : Addr) : Sp := fun vs H Q _ => ∃ (p q : Addr) (l : List Bool) (fs : List Ft), vs = [.ref p, .ref q] ∧ RingAt K C H p l ∧ l.length ≤ 10 ∧ FtsAt K H q fs ∧ FOk l.length fs ∧
  ∀ H' r, Same H H' → H r = none → H' r = some (.lst ((List.range (l.length + 1)).map fun k => V.bl (!opn l fs k))) → Q (.ref r) H'
def endS (b : Bool) : Str := if b then "left" else "right"
def walkL (b : Bool) (l : List Bool) (fs : List Ft) : List Nat := if b then leftL l (opn l fs) else (rightL l (opn l fs)).reverse
def sp_passed_from (K : PySem.W.Frag) (C : Addr) : Sp := fun vs H Q _ => ∃ (p q : Addr) (b : Bool) (l : List Bool) (fs : List Ft), vs = [.ref p, .str (endS b), .ref q] ∧ RingAt K C H p l ∧ l.length ≤ 10 ∧ FtsAt K H q fs ∧ FOk l.length fs ∧
  ∀ H' r, Same H H' → H r = none → H' r = some (.lst (nV (walkL b l fs))) → Q (.ref r) H'
def sp_reached (K : PySem.W.Frag) (C CF : Addr) : Sp := fun vs H Q E => ∃ (p q : Addr) (l : List Bool), vs = [.ref p, .ref q] ∧ RingAt K C H p l ∧ l.length ≤ 10 ∧
  ((∃ fs, FtsAt K H q fs ∧ FOk l.length fs ∧ ∀ H' r, Same H H' → H r = none → H' r = some (.tup (nV (heardL l (opn l fs)))) → Q (.ref r) H') ∨ ∃ x, MixAt K H q l.length x ∧ Er CF "fault" E H x)
/-- no word of an end -/
def NoEnd (e : V) : Prop := flatV e = true ∧ inV e [V.str "left", V.str "right"] = false
def sp_open (K : PySem.W.Frag) : Sp := fun vs H Q _ => ∃ (a : Addr) (ns : List Int), vs = [.ref a] ∧ SqL K H a (ns.map V.int) ∧ ns.length ≤ 63 ∧ ∀ H' b, Same H H' → Bg H' b 0 → Q (.ref b) H'
def sp_draw (K : PySem.W.Frag) : Sp := fun vs H Q _ => ∃ (b : Addr) (n : Nat) (lim : Int), vs = [.ref b, .int lim] ∧ 0 < lim ∧ lim < 2 ^ 100 ∧ Bg H b n ∧ n ≤ 1000000 ∧
  ∀ H' d, 0 ≤ d → d < lim → Bg H' b (n + 1) → Bt b H H' → Q (.int d) H'
def sp_text (K : PySem.W.Frag) : Sp := fun vs H Q _ => ∃ (b : Addr) (n : Nat), vs = [.ref b] ∧ Bg H b n ∧ n ≤ 900000 ∧ ∀ H' l, Ri l → Bg H' b (n + 30) → Bt b H H' → Q (.str (rgS l)) H'
/-- a new list of faults -/
def sp_faults (K : PySem.W.Frag) : Sp := fun vs H Q _ => ∃ (b : Addr) (n many : Nat) (l : List Bool), vs = [.ref b, .str (rgS l), .int ((many : Nat) : Int)] ∧ many ≤ 10 ∧ l.length ≤ 10 ∧ Bg H b n ∧ n ≤ 900000 ∧
  ∀ H' r (fs : List Ft) (xs : List V), H r = none → fs.length = many → (∀ f ∈ fs, f.2 ≤ l.length) → H' r = some (.lst xs) → Dts K H' xs (fs.map ftD) → Bg H' b (n + 2 * many) → Bt b H H' → Q (.ref r) H'
def sp_zone (K : PySem.W.Frag) : Sp := fun vs H Q _ => ∃ (k : Nat) (l : List Bool), vs = [.str (rgS l), .int ((k : Nat) : Int)] ∧ l.length ≤ 10 ∧ ∀ H', Same H H' → Q (.int ((zone l k : Nat) : Int)) H'
def sp_open_at (K : PySem.W.Frag) : Sp := fun vs H Q _ => ∃ (k : Nat) (q : Addr) (l : List Bool) (fs : List Ft), vs = [.str (rgS l), .ref q, .int ((k : Nat) : Int)] ∧ l.length ≤ 10 ∧ FtsAt K H q fs ∧ FOk l.length fs ∧ ∀ H', Same H H' → Q (.bl (opn l fs k)) H'
def sp_passed (K : PySem.W.Frag) : Sp := fun vs H Q _ => ∃ (q r : Addr) (l : List Bool) (fs : List Ft) (ks : List Nat), vs = [.str (rgS l), .ref q, .ref r] ∧ l.length ≤ 10 ∧ FtsAt K H q fs ∧ FOk l.length fs ∧ H r = some (.lst (nV ks)) ∧ ks.length ≤ 20 ∧
  ∀ H', Same H H' → Q (.bl (ks.all (opn l fs))) H'
def sp_spots (K : PySem.W.Frag) : Sp := fun vs H Q _ => ∃ l : List Bool, vs = [.str (rgS l)] ∧ l.length ≤ 10 ∧ ∀ H' r, Same H H' → H r = none → H' r = some (.lst (nV (sp l))) → Q (.ref r) H'
def sp_heard (K : PySem.W.Frag) : Sp := fun vs H Q _ => ∃ (q : Addr) (l : List Bool) (fs : List Ft), vs = [.str (rgS l), .ref q] ∧ l.length ≤ 10 ∧ FtsAt K H q fs ∧ FOk l.length fs ∧
  ∀ H' r, Same H H' → H r = none → H' r = some (.tup (nV (heardL l (opn l fs)))) → Q (.ref r) H'
/-- data that stands from now on, but for the source of draws -/
structure Odt (K : PySem.W.Frag) (b : Addr) (H : Hp) (x : V) (d : PyData) : Prop where
  dp : ∀ H', Bt b H H' → Dp K H' x d
  lay : d.canLay0 = true
  dep : d.depth ≤ 10
theorem Odt.k {K : PySem.W.Frag} {b : Addr} {H H' : Hp} {x : V} {d : PyData} (h : Odt K b H x d) (e : Bt b H H') : Odt K b H' x d := ⟨fun _ e2 => h.dp _ (e.trans e2), h.lay, h.dep⟩
def Off (p : Addr) (H H' : Hp) : Prop := ∀ q o, q ≠ p → H q = some o → H' q = some o
/-! ### houses -/
def BadBox (K : PySem.W.Frag) (H : Hp) (x : V) : Prop := (∃ t : Str, x = .str t ∧ t.length ≤ 100 ∧ ¬ IsNum t) ∨ NoStr K H x
def BadRg (K : PySem.W.Frag) (H : Hp) (x : V) : Prop := (∃ t : Str, x = .str t ∧ t.length ≤ 100 ∧ ¬ IsRing t) ∨ NoStr K H x
structure Hs where
  ds : List Nat
  l : List Bool
  m : Int
  r : Int
  n : Nat
structure HsOk (h : Hs) : Prop where
  num : Num h.ds
  ri : Ri h.l
  r1 : 1 ≤ h.r
  r8 : h.r ≤ 8
  n1 : 1 ≤ h.n
  nl : h.n ≤ h.l.count true
inductive HOut
  | bad (w : Str)
  | ok (h : Hs)
/-- what a house may be made of, and what comes of it -/
inductive HI (K : PySem.W.Frag) (H : Hp) : V → V → V → V → V → HOut → Prop
  | box {x y a b c : V} : BadBox K H x → HI K H x y a b c (.bad "box")
  | ring {ds : List Nat} {y a b c : V} : Num ds → BadRg K H y → HI K H (.str (numS ds)) y a b c (.bad "ring")
  | mark {ds : List Nat} {l : List Bool} {a b c : V} : Num ds → Ri l → Thing K H a none → HI K H (.str (numS ds)) (.str (rgS l)) a b c (.bad "mark")
  | rows {ds : List Nat} {l : List Bool} {m : Int} {b c : V} {o : Option Int} : Num ds → Ri l → Thing K H b o → within 1 8 o = false → HI K H (.str (numS ds)) (.str (rgS l)) (.int m) b c (.bad "rows")
  | need {ds : List Nat} {l : List Bool} {m r : Int} {c : V} {o : Option Int} : Num ds → Ri l → 1 ≤ r → r ≤ 8 → Thing K H c o → within 1 ((l.count true : Nat) : Int) o = false → HI K H (.str (numS ds)) (.str (rgS l)) (.int m) (.int r) c (.bad "need")
  | ok {h : Hs} : HsOk h → HI K H (.str (numS h.ds)) (.str (rgS h.l)) (.int h.m) (.int h.r) (.int (h.n : Nat)) (.ok h)
def HouseAt (K : PySem.W.Frag) (C HC : Addr) (H : Hp) (p : Addr) (h : Hs) : Prop :=
  ∃ dx fs q, H p = some (.ins HC dx fs) ∧ fs.lookup ("box" : Str) = some (.str (numS h.ds)) ∧ fs.lookup ("ring" : Str) = some (.str (rgS h.l)) ∧ fs.lookup ("mark" : Str) = some (.int h.m) ∧ fs.lookup ("rows" : Str) = some (.int h.r) ∧ fs.lookup ("need" : Str) = some (.int (h.n : Nat)) ∧
    fs.lookup ("layout" : Str) = some (.ref q) ∧ fs.lookup ("seekers" : Str) = some (.int ((h.l.count true : Nat) : Int)) ∧
    (∀ m : Str, m ≠ "box" → m ≠ "ring" → m ≠ "mark" → m ≠ "rows" → m ≠ "need" → m ≠ "layout" → m ≠ "seekers" → fs.lookup m = none) ∧ RingAt K C H q h.l
def sp_is_number (K : PySem.W.Frag) : Sp := fun vs H Q _ => ∃ x, vs = [x] ∧ ((∃ t : Str, x = .str t ∧ t.length ≤ 100 ∧ ∀ H' b, Same H H' → (b = true ↔ IsNum t) → Q (.bl b) H') ∨ (NoStr K H x ∧ Q (.bl false) H))
def HEnd (K : PySem.W.Frag) (C HC CH : Addr) (E : XK) (H : Hp) (o : HOut) (k : Hs → Prop) : Prop := match o with
  | .bad w => Er CH "what" E H (.str w)
  | .ok h => k h
def sp_hinit (K : PySem.W.Frag) (C HC CH : Addr) : Sp := fun vs H Q E => ∃ (p dx : Addr) (x y a b c : V) (o : HOut), vs = [.ref p, x, y, a, b, c] ∧ H p = some (.ins HC dx []) ∧ HI K H x y a b c o ∧
  HEnd K C HC CH E H o fun h => ∀ H', (∀ q o, q ≠ p → H q = some o → H' q = some o) → HouseAt K C HC H' p h → Q .non H'
def eqH (h h2 : Hs) : Bool := decide (V.str (numS h.ds) = V.str (numS h2.ds)) && (decide (V.str (rgS h.l) = V.str (rgS h2.l)) && (decide (V.int h.m = V.int h2.m) && (decide (V.int h.r = V.int h2.r) && decide (V.int (h.n : Nat) = V.int (h2.n : Nat)))))
def sp_heq (K : PySem.W.Frag) (C HC : Addr) : Sp := fun vs H Q _ => ∃ (p p2 : Addr) (h h2 : Hs), vs = [.ref p, .ref p2] ∧ HouseAt K C HC H p h ∧ HouseAt K C HC H p2 h2 ∧ Q (.bl (eqH h h2)) H
/-- faults as the star's tuple -/
def sp_is_silent (K : PySem.W.Frag) (C HC CF : Addr) : Sp := fun vs H Q E => ∃ (p q : Addr) (h : Hs), vs = [.ref p, .ref q] ∧ HouseAt K C HC H p h ∧ h.l.length ≤ 10 ∧
  ((∃ fs : List Ft, FtsAt K H q fs ∧ FOk h.l.length fs ∧ ∀ H', Same H H' → Q (.bl (sil h.l h.n fs)) H') ∨ ∃ x, MixAt K H q h.l.length x ∧ Er CF "fault" E H x)
/-! ### panels -/
/-- what stands of a panel: its faults, the counts, whether it is alarmed -/
structure Ps where
  fs : List Ft
  cs : List Nat
  al : Bool
/-- faults in the ring's order, each once -/
def norm (l : List Bool) (gs : List Ft) : List Ft := (allF (l.length + 1)).filter fun f => decide (f ∈ gs)
def panelF : List Str := ["house", "faults", "heard", "counts", "alarmed"]
def KeysOk (fs : List (Str × V)) : Prop := (fs.map (·.1)).Nodup ∧ ∀ k ∈ fs.map (·.1), k ∈ panelF
/-- a panel by its fields -/
def PRaw (K : PySem.W.Frag) (C HC PC : Addr) (H : Hp) (p : Addr) (h : Hs) (g : Str → Option V) : Prop :=
  ∃ dx fs hh, H p = some (.ins PC dx fs) ∧ KeysOk fs ∧ (∀ m : Str, fs.lookup m = g m) ∧ g "house" = some (.ref hh) ∧ HouseAt K C HC H hh h ∧ ∀ m : Str, m ∉ panelF → g m = none
def setG (g : Str → Option V) (k : Str) (v : V) : Str → Option V := fun m => if m = k then some v else g m
def PanelAt (K : PySem.W.Frag) (C HC PC : Addr) (H : Hp) (p : Addr) (h : Hs) (s : Ps) : Prop :=
  ∃ g u v w, PRaw K C HC PC H p h g ∧ g "faults" = some (.ref u) ∧ g "heard" = some (.ref v) ∧ g "counts" = some (.ref w) ∧ g "alarmed" = some (.bl s.al) ∧ Dt K H (.ref u) (.tuple (s.fs.map ftD)) ∧ SqT K H v (nV (heardL h.l (opn h.l s.fs))) ∧ SqT K H w (nV s.cs) ∧
    s.cs.length = h.l.count true ∧ norm h.l s.fs = s.fs
/-- the counts behind a beat -/
def stepC (h : Hs) (fs : List Ft) (cs : List Nat) (ms : List Int) : List Nat := (List.range (h.l.count true)).map fun j => if decide (j ∈ heardL h.l (opn h.l fs)) && decide (h.m < ms.getD j 0) then cs.getD j 0 + 1 else 0
def alarm (h : Hs) (cs : List Nat) : Bool := decide (h.n ≤ (cs.filter fun c => decide (h.r ≤ ((c : Nat) : Int))).length)
def beatP (h : Hs) (s : Ps) (ms : List Int) : Ps := ⟨s.fs, stepC h s.fs s.cs ms, alarm h (stepC h s.fs s.cs ms)⟩
def warns (h : Hs) (s : Ps) (ms : List Int) : Bool := alarm h (stepC h s.fs s.cs ms) && !s.al
def freshP (h : Hs) : Ps := ⟨[], List.replicate (h.l.count true) 0, false⟩
def Er2 (C : Addr) (f1 f2 : Str) (E : XK) (H : Hp) (x y : V) : Prop := ∀ H' d, Same H H' → H' d = some (.xd [(f2, y), (f1, x)]) → E (.ref C) (some d) H'
theorem Er2.after {C : Addr} {f1 f2 : Str} {E : XK} {H H1 : Hp} {x y : V} (h : Er2 C f1 f2 E H x y) (s : Same H H1) : Er2 C f1 f2 E H1 x y := fun H' d s' e => h H' d (s.trans s') e
/-- a row of levels for n seekers -/
inductive LvO
  | good (ms : List Int)
  | len (k : Nat)
  | level (i : Nat)
inductive LvIs (K : PySem.W.Frag) (H : Hp) (q : Addr) (n : Nat) : LvO → Prop
  | good {t : Bool} {ms : List Int} : Kd.Is K t H q (ms.map V.int) → ms.length = n → LvIs K H q n (.good ms)
  | len {t : Bool} {xs : List V} : Kd.Is K t H q xs → xs.length ≠ n → xs.length ≤ 1000 → LvIs K H q n (.len xs.length)
  | level {t : Bool} {ms : List Int} {x : V} {rest : List V} : Kd.Is K t H q (ms.map V.int ++ x :: rest) → (ms.map V.int ++ x :: rest).length = n → Thing K H x none → LvIs K H q n (.level ms.length)
def LvEnd (CV : Addr) (E : XK) (H : Hp) (o : LvO) (k : List Int → Prop) : Prop := match o with
  | .good ms => k ms
  | .len j => Er2 CV "what" "at" E H (.str "length") (.int ((j : Nat) : Int))
  | .level i => Er2 CV "what" "at" E H (.str "level") (.int ((i : Nat) : Int))
def sp_check_levels (K : PySem.W.Frag) (C HC CV : Addr) : Sp := fun vs H Q E => ∃ (p q : Addr) (h : Hs) (o : LvO), vs = [.ref p, .ref q] ∧ HouseAt K C HC H p h ∧ h.l.length ≤ 10 ∧ LvIs K H q (h.l.count true) o ∧ LvEnd CV E H o fun _ => ∀ H', Same H H' → Q .non H'
def sp_reset (K : PySem.W.Frag) (C HC PC : Addr) : Sp := fun vs H Q _ => ∃ (p : Addr) (h : Hs) (g : Str → Option V), vs = [.ref p] ∧ PRaw K C HC PC H p h g ∧ h.l.length ≤ 10 ∧ 1 ≤ h.l.count true ∧
  ∀ H' w, Off p H H' → PRaw K C HC PC H' p h (setG (setG g "counts" (.ref w)) "alarmed" (.bl false)) → SqT K H' w (nV (List.replicate (h.l.count true) 0)) → Q .non H'
def sp_set_faults (K : PySem.W.Frag) (C HC PC : Addr) : Sp := fun vs H Q _ => ∃ (p q : Addr) (h : Hs) (g : Str → Option V) (gs : List Ft), vs = [.ref p, .ref q] ∧ PRaw K C HC PC H p h g ∧ h.l.length ≤ 10 ∧ FtsAt K H q gs ∧ FOk h.l.length gs ∧
  ∀ H' u v, Off p H H' → PRaw K C HC PC H' p h (setG (setG g "faults" (.ref u)) "heard" (.ref v)) → Dt K H' (.ref u) (.tuple ((norm h.l gs).map ftD)) → SqT K H' v (nV (heardL h.l (opn h.l (norm h.l gs)))) → Q .non H'
def sp_pinit (K : PySem.W.Frag) (C HC PC : Addr) : Sp := fun vs H Q _ => ∃ (p hh dx : Addr) (h : Hs), vs = [.ref p, .ref hh] ∧ H p = some (.ins PC dx []) ∧ HouseAt K C HC H hh h ∧ HsOk h ∧ ∀ H', Off p H H' → PanelAt K C HC PC H' p h (freshP h) → Q .non H'
def sp_put_fault (K : PySem.W.Frag) (C HC PC CF : Addr) : Sp := fun vs H Q E => ∃ (p : Addr) (x : V) (h : Hs) (s : Ps), vs = [.ref p, x] ∧ PanelAt K C HC PC H p h s ∧ HsOk h ∧
  ((∃ f : Ft, Dt K H x (ftD f) ∧ f.2 ≤ h.l.length ∧ ∀ H', Off p H H' → PanelAt K C HC PC H' p h ⟨norm h.l (s.fs ++ [f]), s.cs, s.al⟩ → Q .non H') ∨ (Odd K H h.l.length x ∧ Er CF "fault" E H x))
def sp_mend_fault (K : PySem.W.Frag) (C HC PC CF CN : Addr) : Sp := fun vs H Q E => ∃ (p : Addr) (x : V) (h : Hs) (s : Ps), vs = [.ref p, x] ∧ PanelAt K C HC PC H p h s ∧ HsOk h ∧
  ((∃ f : Ft, Dt K H x (ftD f) ∧ f.2 ≤ h.l.length ∧ ((f ∈ s.fs ∧ ∀ H', Off p H H' → PanelAt K C HC PC H' p h ⟨norm h.l (s.fs.filter fun g => !decide (g = f)), s.cs, s.al⟩ → Q .non H') ∨ (f ∉ s.fs ∧ Er CN "fault" E H x))) ∨ (Odd K H h.l.length x ∧ Er CF "fault" E H x))
def sp_count_behind (K : PySem.W.Frag) (C HC PC : Addr) : Sp := fun vs H Q _ => ∃ (p : Addr) (j : Nat) (m : Int) (h : Hs) (s : Ps), vs = [.ref p, .int ((j : Nat) : Int), .int m] ∧ PanelAt K C HC PC H p h s ∧ j < h.l.count true ∧ HsOk h ∧
  ∀ H', Same H H' → Q (.int (((if decide (j ∈ heardL h.l (opn h.l s.fs)) && decide (h.m < m) then s.cs.getD j 0 + 1 else 0 : Nat)) : Int)) H'
def sp_beat (K : PySem.W.Frag) (C HC PC CV : Addr) : Sp := fun vs H Q E => ∃ (p q : Addr) (h : Hs) (s : Ps) (o : LvO), vs = [.ref p, .ref q] ∧ PanelAt K C HC PC H p h s ∧ HsOk h ∧ LvIs K H q (h.l.count true) o ∧
  LvEnd CV E H o fun ms => ∀ H', Off p H H' → PanelAt K C HC PC H' p h (beatP h s ms) → Q (.bl (warns h s ms)) H'
def sp_copied (K : PySem.W.Frag) (C HC PC : Addr) : Sp := fun vs H Q _ => ∃ (p : Addr) (h : Hs) (s : Ps), vs = [.ref p] ∧ PanelAt K C HC PC H p h s ∧ HsOk h ∧ ∀ H' q, Same H H' → H q = none → PanelAt K C HC PC H' q h s → Q (.ref q) H'
/-- faults put one by one -/
def putsP (h : Hs) (s : Ps) (fs : List Ft) : Ps := ⟨fs.foldl (fun a f => norm h.l (a ++ [f])) s.fs, s.cs, s.al⟩
/-- beats one by one: which of them warn, and what stands behind them -/
def runP (h : Hs) (s : Ps) : List (List Int) → List Bool × Ps
  | [] => ([], s)
  | ms :: r => (warns h s ms :: (runP h (beatP h s ms) r).1, (runP h (beatP h s ms) r).2)
/-- rows of levels, all good, or the first that is not -/
def RowsIs (K : PySem.W.Frag) (H : Hp) (q : Addr) (n : Nat) (rs : List (List Int)) (bad : Option LvO) : Prop :=
  ∃ (t : Bool) (xs : List V) (rest : List V), Kd.Is K t H q (xs ++ rest) ∧ xs.length = rs.length ∧ (xs ++ rest).length ≤ 100 ∧ (∀ (i : Nat) x ms, xs[i]? = some x → rs[i]? = some ms → ∃ a, x = .ref a ∧ LvIs K H a n (.good ms)) ∧ match bad with
    | none => rest = []
    | some o => (∀ ms, o ≠ .good ms) ∧ ∃ a r, rest = .ref a :: r ∧ LvIs K H a n o
def sp_tried (K : PySem.W.Frag) (C HC PC CF CV : Addr) : Sp := fun vs H Q E => ∃ (p fq bq : Addr) (h : Hs) (s : Ps), vs = [.ref p, .ref fq, .ref bq] ∧ PanelAt K C HC PC H p h s ∧ HsOk h ∧
  ((∃ x, MixAt K H fq h.l.length x ∧ Er CF "fault" E H x) ∨
   ∃ fs rs bad, FtsAt K H fq fs ∧ FOk h.l.length fs ∧ RowsIs K H bq (h.l.count true) rs bad ∧ match bad with
    | none => ∀ H' u, Same H H' → SqT K H' u ((runP h (putsP h s fs) rs).1.map V.bl) → Q (.ref u) H'
    | some o => LvEnd CV E H o fun _ => True)
def firstB : List Bool → Option Nat
  | [] => none
  | true :: _ => some 0
  | false :: r => (firstB r).map (· + 1)
/-- the first row that warns -/
def firstW (h : Hs) (s : Ps) (rs : List (List Int)) : Option Nat := firstB (runP h s rs).1
def sp_first_warning (K : PySem.W.Frag) (C HC PC CF CV : Addr) : Sp := fun vs H Q E => ∃ (p bq fq : Addr) (h : Hs), vs = [.ref p, .ref bq, .ref fq] ∧ HouseAt K C HC H p h ∧ HsOk h ∧
  ((∃ x, MixAt K H fq h.l.length x ∧ Er CF "fault" E H x) ∨
   ∃ fs rs, FtsAt K H fq fs ∧ FOk h.l.length fs ∧ ∃ (t : Bool) (xs rest : List V), Kd.Is K t H bq (xs ++ rest) ∧ xs.length = rs.length ∧ (xs ++ rest).length ≤ 100 ∧ (∀ (i : Nat) x ms, xs[i]? = some x → rs[i]? = some ms → ∃ a, x = .ref a ∧ LvIs K H a (h.l.count true) (.good ms)) ∧
    ((firstW h (putsP h (freshP h) fs) rs = none ∧ rest = [] ∧ ∀ H', Same H H' → Q .non H') ∨ ∃ k, firstW h (putsP h (freshP h) fs) rs = some k ∧ ∀ H', Same H H' → Q (.int ((k : Nat) : Int)) H'))
/-- the least row that warns -/
def falseL (h : Hs) (fs : List Ft) : List Int := (List.range (h.l.count true)).map fun j => if j ∈ (heardL h.l (opn h.l fs)).take h.n then h.m + 1 else h.m
def sp_false_levels (K : PySem.W.Frag) (C HC CF : Addr) : Sp := fun vs H Q E => ∃ (p fq : Addr) (h : Hs), vs = [.ref p, .ref fq] ∧ HouseAt K C HC H p h ∧ HsOk h ∧
  ((∃ x, MixAt K H fq h.l.length x ∧ Er CF "fault" E H x) ∨
   ∃ fs, FtsAt K H fq fs ∧ FOk h.l.length fs ∧ (((heardL h.l (opn h.l fs)).length < h.n ∧ ∀ H', Same H H' → Q .non H') ∨ (h.n ≤ (heardL h.l (opn h.l fs)).length ∧
     ∀ H' u, Same H H' → Dt K H' (.ref u) (.tuple (List.replicate h.r.toNat (.tuple ((falseL h fs).map PyData.int)))) → Q (.ref u) H')))
end K52

namespace K52
open PySem L2 Wm TL Dv Rm Lo
section
variable {P : Program} {w : World} {K : PySem.W.Frag} {mg : Str → Option Value} {base : Heap}
theorem iteN {c : Bool} {A B : Prop} (e : c = false) (h : B) : if c = true then A else B := by
  rw [e]
  exact iteF h
theorem iteY {c : Bool} {A B : Prop} (e : c = true) (h : A) : if c = true then A else B := by
  rw [e]
  exact iteT h
theorem small_len {n : Nat} (h : n ≤ 100000) : n ≤ sizeLine := by
  have := sizeLine_eq
  omega
theorem tyT {H : Hp} {p : Addr} {xs : List V} (h : SqT K H p xs) : TyX K H (.ref p) (.type "tuple") := by
  rcases h with (h | ⟨o, h⟩) | ⟨o, its, n, e, c, _⟩
  · exact .base (.tup h)
  · exact .fTuple h
  · exact .kTuple e c
theorem tyL {H : Hp} {p : Addr} {xs : List V} (h : SqL K H p xs) : TyX K H (.ref p) (.type "list") := by
  rcases h with (h | ⟨o, h⟩) | ⟨o, its, n, e, c, _⟩
  · exact .base (.lst h)
  · exact .base (.frz h)
  · exact .kList e c
theorem within_int {lo hi : Int} {o : Option Int} (h : within lo hi o = true) : ∃ i, o = some i ∧ lo ≤ i ∧ i ≤ hi := by
  cases o with
  | none => cases h
  | some i =>
    have q : (decide (lo ≤ i) && decide (i ≤ hi)) = true := h
    simp at q
    exact ⟨i, rfl, q.1, q.2⟩
theorem ok_is_whole (T : Txt K mg) : FnOk P w K mg base CX0 1 T.a_is_whole T.d_is_whole ["thing"] (sp_is_whole K) := by
  refine T.F_is_whole.ok sc_is_whole (fun vs H Q E h => ?_) (fun cdv A outer s H vs Q E hr h => ?_)
  · obtain ⟨x, o, rfl, _⟩ := h
    rfl
  · obtain ⟨x, o, rfl, hx, k⟩ := h
    refine ⟨_, (pss_one (ps_ret (pe_and (pe_callB call_isi (by rfl) T.z_isinstance (by decide +kernel) (pa_cons (pv 0) (pa_cons (pe_bltn (v := V.ty "int") (by rfl) T.z_int (by decide +kernel) rfl) pa_nil))) (pe_one (pe_not (pe_callB call_isi (by rfl) T.z_isinstance (by decide +kernel) (pa_cons (pv 0) (pa_cons (pe_bltn (v := V.ty "bool") (by rfl) T.z_bool (by decide +kernel) rfl) pa_nil)))))))), ?_⟩
    cases hx with
    | int i =>
      refine ⟨_, rfl, _, _, _, _, true, rfl, .ty "int", .base (.int _), kit_ty (by decide +kernel), true, rfl, iteT ?_⟩
      exact ⟨_, rfl, _, _, _, _, false, rfl, .ty "bool", .base (.int _), kit_ty (by decide +kernel), false, rfl, k⟩
    | bl b =>
      refine ⟨_, rfl, _, _, _, _, true, rfl, .ty "int", .base (.bl _), kit_ty (by decide +kernel), true, rfl, iteT ?_⟩
      exact ⟨_, rfl, _, _, _, _, true, rfl, .ty "bool", .base (.bl _), kit_ty (by decide +kernel), true, rfl, k⟩
    | str s => exact ⟨_, rfl, _, _, _, _, false, rfl, .ty "int", .base (.str _), kit_ty (by decide +kernel), false, rfl, iteF k⟩
    | non => exact ⟨_, rfl, _, _, _, _, false, rfl, .ty "int", .base .non, kit_ty (by decide +kernel), false, rfl, iteF k⟩
    | emp q => exact ⟨_, rfl, _, _, _, _, false, rfl, .ty "int", tyT q, kit_ty (by decide +kernel), false, rfl, iteF k⟩
theorem ok_is_whole_within (T : Txt K mg) : FnOk P w K mg base CX0 2 T.a_is_whole_within T.d_is_whole_within ["thing", "low", "high"] (sp_is_whole_within K) := by
  refine T.F_is_whole_within.ok sc_is_whole_within (fun vs H Q E h => ?_) (fun cdv A outer s H vs Q E hr h => ?_)
  · obtain ⟨x, o, lo, hi, rfl, _⟩ := h
    rfl
  · obtain ⟨x, o, lo, hi, rfl, hx, k⟩ := h
    refine ⟨_, (pss_one (ps_ret (pe_and (pe_call (ok_is_whole T) (hr.mono (by decide)) (by rfl) T.g_is_whole T.F_is_whole.kp T.b_is_whole .nil pass0 (pa_cons (pv 0) pa_nil)) (pe_one (pe_chain op_le op_le (pv 1) (pv 0) (pv 2)))))), ?_⟩
    refine ⟨_, rfl, x, o, rfl, hx, ?_⟩
    cases o with
    | none => exact ⟨false, rfl, iteF k⟩
    | some i =>
      cases hx
      refine ⟨true, rfl, iteT ?_⟩
      refine ⟨_, rfl, _, rfl, _, _, rfl, rfl, _, rfl, ?_⟩
      have k : Q (.bl (decide (lo ≤ i) && decide (i ≤ hi))) H := k
      cases e : decide (lo ≤ i) with
      | true =>
        rw [e] at k
        exact iteT ⟨_, rfl, _, _, rfl, rfl, k⟩
      | false =>
        rw [e] at k
        exact iteF k
def sgns (t : Str) : List Bool := (tl t).map fun c => decide (c = 115) || decide (c = 111)
theorem sgns_all {t : Str} : (sgns t).all id = true ↔ ∀ c ∈ t.cps.toList, c = 115 ∨ c = 111 := by
  unfold sgns
  rw [List.all_map, List.all_eq_true]
  constructor
  · intro h c m
    have := h c m
    simpa using this
  · intro h c m
    have := h c m
    simpa using this
theorem in_sgns (c : Nat) : inV (.str ⟨#[c]⟩) [V.str "s", V.str "o"] = (decide (c = 115) || decide (c = 111)) := by
  have e : inV (.str ⟨#[c]⟩) [V.str "s", V.str "o"] = ((("s" : Str) == ⟨#[c]⟩) || ((("o" : Str) == ⟨#[c]⟩) || false)) := rfl
  rw [e, Bool.or_false]
  congr 1
  · by_cases h : c = 115
    · subst h
      decide +kernel
    · rw [decide_eq_false h]
      refine beq_eq_false_iff_ne.mpr fun z => h ?_
      have : ("s" : Str).cps = #[c] := congrArg Str.cps z
      have : (#[115] : Array Nat) = #[c] := this
      injection this with this
      injection this with this
      exact this.symm
  · by_cases h : c = 111
    · subst h
      decide +kernel
    · rw [decide_eq_false h]
      refine beq_eq_false_iff_ne.mpr fun z => h ?_
      have : (#[111] : Array Nat) = #[c] := congrArg Str.cps z
      injection this with this
      injection this with this
      exact this.symm
theorem cps_at {t : Str} {i c : Nat} (h : t.cps[i]? = some c) : (tl t)[i]? = some c := by
  rw [← h]
  exact Array.getElem?_toList ..
theorem tk_map {α β : Type} {l : List α} {i : Nat} {x : α} (f : α → β) (h : l[i]? = some x) : ((l.take i).map f) ++ [f x] = (l.take (i + 1)).map f := by
  rw [List.take_add_one, h, List.map_append]
  rfl
theorem ok_is_ring_text (T : Txt K mg) : FnOk P w K mg base CX0 1 T.a_is_ring_text T.d_is_ring_text ["thing"] (sp_is_ring_text K) := by
  refine T.F_is_ring_text.ok sc_is_ring_text (fun vs H Q E h => ?_) (fun cdv A outer s H vs Q E hr h => ?_)
  · obtain ⟨x, rfl, _⟩ := h
    rfl
  · obtain ⟨x, rfl, h⟩ := h
    refine ⟨_, (pss_cons (ps_if (PW.pt (pw_or (pt_not (pt_val (pe_callB call_isi (by rfl) T.z_isinstance (by decide +kernel) (pa_cons (pv 0) (pa_cons (pe_bltn (v := V.ty "str") (by rfl) T.z_str (by decide +kernel) rfl) pa_nil))))) (pw_or1 (pt_cmpR op_gt (pe_callB call_len_str (by rfl) T.z_len PySem.boot_len (pa_cons (pv 0) pa_nil)) (pe_glob (v := V.int 10) rfl T.c_MOST_SIGNS ⟨_, rfl⟩) (nomark _)))))
        (pss_one (ps_ret pe_bl))
        pss_nil)
      (pss_one (ps_ret (pe_and (pe_cmpR op_in_sign (pe_glob (v := V.str "s") rfl T.c_SEEKER ⟨_, rfl⟩) (pv 0) rfl) (pe_one (pe_callB (cr_all rfl) (by rfl) T.z_all (by decide +kernel) (pa_cons (pe_lc (own := [("sign", 1)]) (g := gName 1) (tt := tYes) rfl sc_is_ring_text.nd (pi_str (pv 0)) (blkOk_by (own := [("sign", 1)]) (N := nm_is_ring_text) (sc := (defScope s_is_ring_text)) (by decide +kernel)) (fun _ _ _ _ _ => pg_name (i := 1) sc_is_ring_text.nd rfl (Or.inl rfl)) (fun _ _ _ _ _ => pts_nil) (fun _ _ _ _ _ => (pe_cmpR (show OpR _ _ (rIn K false) from op_in_seq) (pv 1) (pe_tup (pa_cons (pe_glob (v := V.str "s") rfl T.c_SEEKER ⟨_, rfl⟩) (pa_cons (pe_glob (v := V.str "o") rfl T.c_OPENER ⟨_, rfl⟩) pa_nil))) rfl))) pa_nil))))))), ?_⟩
    rcases h with ⟨t, rfl, hl, k⟩ | ⟨⟨ty, hty, hk⟩, k⟩
    · refine ⟨_, rfl, _, _, _, _, true, rfl, .ty "str", .base (.str _), kit_ty (by decide +kernel), true, rfl, ?_⟩
      refine iteF ?_
      refine ⟨_, rfl, _, rfl, small_len (by omega), _, _, rfl, rfl, _, rfl, ite2 (fun c1 => ?_) (fun c1 => ?_)⟩
      · have c1 := of_decide_eq_true c1
        exact k _ _ (Same.refl _) ⟨fun z => Bool.noConfusion z, fun z => by have := z.1; omega⟩
      · have c1 : ¬ ((t.length : Nat) : Int) > 10 := fun z => c1 (decide_eq_true z)
        refine ⟨_, rfl, 115, t, rfl, rfl, _, rfl, ite2 (fun c2 => ?_) (fun c2 => ?_)⟩
        · have c2 := of_decide_eq_true c2
          have hsz : t.cps.size = (tl t).length := len_tl t
          have hl9 : t.cps.size ≤ 100 := hl
          refine ⟨_, rfl, _, rfl, fun D hD => ?_⟩
          refine lc_it walk_str (fun i H' => Same H H' ∧ H' D = some (.lst (((sgns t).take i).map V.bl)) ∧ True) ⟨same_new hD, upd_same, trivial⟩ (fun _ _ _ _ => trivial) (fun i x H1 H' hi hP hY => ?_) (fun H1 hP => ?_)
          · obtain ⟨sm, hL, _⟩ := hP
            have hi9 : i < t.cps.size := hi
            obtain ⟨rfl, c, hc, rfl⟩ := hY
            have hc2 : (sgns t)[i]? = some (decide (c = 115) || decide (c = 111)) := by
              unfold sgns
              rw [List.getElem?_map, cps_at hc]
              rfl
            refine ⟨rfl, yesT ?_⟩
            refine ⟨_, rfl, by show 2 ≤ sizeLine; decide, fun p hp => ?_⟩
            refine ⟨p, _, rfl, .inr (SqT.of upd_same), rfl, rfl, ?_⟩
            show ∃ _, _
            refine ⟨_, at_old hL hp, by rw [List.length_map, List.length_take]; exact small1000 (Nat.le_trans (Nat.min_le_left _ _) (by omega)), ?_⟩
            refine ⟨same_mut (sm.trans (same_new hp)) hD, ?_, trivial⟩
            rw [upd_same, if_neg (by decide), in_sgns, tk_map V.bl hc2]
          · obtain ⟨sm, hL, _⟩ := hP
            have ell : (sgns t).length = t.cps.size := by unfold sgns; rw [List.length_map, hsz]
            rw [← ell, List.take_length] at hL
            refine ⟨D, sgns t, rfl, SqL.of hL, ?_⟩
            exact k _ _ sm ⟨fun z => ⟨by omega, c2, sgns_all.mp z⟩, fun z => sgns_all.mpr z.2.2⟩
        · refine k _ _ (Same.refl _) ⟨fun z => Bool.noConfusion z, fun z => absurd (decide_eq_true z.2.1) c2⟩
    · refine ⟨_, rfl, _, _, _, _, false, rfl, .ty "str", hty _ (Same.refl _), hk, false, rfl, iteT k⟩
theorem RingAt.k {C : Addr} {H H' : Hp} {p : Addr} {l : List Bool} (h : RingAt K C H p l) (s : Same H H') : RingAt K C H' p l := by
  obtain ⟨dx, fs, y, hp, a, b, c, d, t⟩ := h
  exact ⟨dx, fs, y, s _ _ hp, a, b, c, d, t.k (Kt.same s)⟩
theorem rg_small {l : List Bool} (h : l.length ≤ 100) : (rgS l).length ≤ sizeLine := by
  rw [rgS_len]
  exact small_len (by omega)
theorem rg_ascii (l : List Bool) : (rgS l).cps.all (· < 128) = true := by
  rw [← Array.all_toList, rgS_cps, List.all_map]
  refine List.all_eq_true.mpr fun b _ => ?_
  cases b <;> decide
theorem ok_zone_of (T : Txt K mg) : FnOk P w K mg base CX0 1 T.a_zone_of T.d_zone_of ["self", "stretch"] (sp_zone_of K T.C) := by
  refine T.F_zone_of.ok sc_zone_of (fun vs H Q E h => ?_) (fun cdv A outer s H vs Q E hr h => ?_)
  · obtain ⟨p, k, l, rfl, _⟩ := h
    rfl
  · obtain ⟨p, k, l, rfl, ⟨dx, fs, y, hp, l1, l2, l3, l4, t⟩, hl, kk⟩ := h
    refine ⟨_, (pss_one (ps_ret (pe_bm PySem.F.plainAttrs_str PySem.F.slot_str_count PySem.F.type_str_count mt_count (pe_slice sl_str (pe_fld (pv 0) rfl) po_none (po_some (pv 1))) (pa_cons (pe_glob (v := V.str "o") rfl T.c_OPENER ⟨_, rfl⟩) pa_nil)))), ?_⟩
    refine ⟨_, rfl, p, T.C, dx, fs, _, rfl, hp, T.clC, T.nT, l1, _, rfl, _, rfl, _, rfl, rg_small (by omega), ?_⟩
    rw [rgS_take]
    refine ⟨rfl, _, _, rfl, rfl, ?_⟩
    rw [count_o]
    exact kk
end
end K52

namespace K52
open PySem L2 Wm TL Dv Rm Lo
section
variable {P : Program} {w : World} {K : PySem.W.Frag} {mg : Str → Option Value} {base : Heap}
theorem dts_nats (z : List Nat) {H : Hp} : Dts K H (nV z) (z.map fun n => PyData.int ((n : Nat) : Int)) := by
  have h := dts_int (K := K) (H := H) (z.map fun n => ((n : Nat) : Int))
  rw [List.map_map, List.map_map] at h
  exact h
theorem rgV_nats (f g : Nat) : rgV ((f : Nat) : Int) (((f : Nat) : Int) + ((g : Nat) : Int)) = nV (List.range' f g) := by
  unfold rgV nV
  rw [show ((((f : Nat) : Int) + ((g : Nat) : Int)) - ((f : Nat) : Int)).toNat = g by omega, List.range'_eq_map_range, List.map_map]
  refine List.map_congr_left fun i _ => ?_
  show V.int ((f : Int) + (i : Nat)) = V.int (((f + i : Nat) : Nat) : Int)
  rw [Int.natCast_add]
theorem zn_at : ∀ (gs : List Nat) (f i : Nat) (g : Nat), gs[i]? = some g → (zn f gs)[i]? = some (List.range' (f + (gs.take i).sum) g)
  | [], f, i, g, h => by cases h
  | x :: gs, f, 0, g, h => by
    have e : x = g := Option.some.inj h
    subst e
    show some (List.range' f x) = _
    simp
  | x :: gs, f, i + 1, g, h => by
    show (zn (f + x) gs)[i]? = _
    rw [zn_at gs (f + x) i g h, List.take_succ_cons, List.sum_cons, Nat.add_assoc]
theorem grp_sum : ∀ l : List Bool, (grp l).sum = l.count true
  | [] => rfl
  | false :: l => by show (0 :: grp l).sum = _; rw [List.sum_cons, grp_sum l]; simp
  | true :: l => by
    obtain ⟨g, r, e⟩ := List.exists_cons_of_ne_nil (grp_ne l)
    have ih := grp_sum l
    rw [grp_t e]
    rw [e] at ih
    simp only [List.sum_cons] at ih ⊢
    rw [List.count_cons]
    simp
    omega
theorem sum_take_le : ∀ (gs : List Nat) (i : Nat), (gs.take i).sum ≤ gs.sum
  | [], i => by simp
  | g :: gs, 0 => by simp
  | g :: gs, i + 1 => by
    have := sum_take_le gs i
    simp only [List.take_succ_cons, List.sum_cons]
    omega
theorem sum_take_succ {gs : List Nat} {i g : Nat} (h : gs[i]? = some g) : (gs.take (i + 1)).sum = (gs.take i).sum + g := by
  rw [List.take_add_one, h, List.sum_append]
  simp
theorem ok_zones_of (T : Txt K mg) : FnOk P w K mg base CX0 1 T.a_zones_of T.d_zones_of ["text"] (sp_zones_of K) := by
  refine T.F_zones_of.ok sc_zones_of (fun vs H Q E h => ?_) (fun cdv A outer s H vs Q E hr h => ?_)
  · obtain ⟨l, rfl, _⟩ := h
    rfl
  · obtain ⟨l, rfl, hl, k⟩ := h
    refine ⟨_, (pss_cons (ps_set (i := 1) sc_zones_of.nd rfl (Or.inl rfl) (pe_lst pa_nil))
      (pss_cons (ps_set (i := 2) sc_zones_of.nd rfl (Or.inl rfl) pe_int)
      (pss_cons (ps_for PassesOwn.never rfl (pi_list (pe_split (pv 0) (pe_glob (v := V.str "o") rfl T.c_OPENER ⟨_, rfl⟩))) (pg_name (i := 3) sc_zones_of.nd rfl (Or.inl rfl))
        (pss_cons (ps_expr (pe_bm PySem.F.plainAttrs_list PySem.F.slot_list_append PySem.F.type_list_append mt_append (pv 1) (pa_cons (pe_tupRg rfl (by rfl) T.z_tuple (prg_2 (by rfl) T.z_range (pv 2) (pe_op op_add (pv 2) (pe_callB call_len_str (by rfl) T.z_len PySem.boot_len (pa_cons (pv 3) pa_nil))))) pa_nil)))
        (pss_one (ps_aug (i := 2) sc_zones_of.nd rfl (Or.inl rfl) (pe_callB call_len_str (by rfl) T.z_len PySem.boot_len (pa_cons (pv 3) pa_nil)) ip_add))))
      (pss_one (ps_ret (pe_callTy call_tuple_of (by rfl) T.z_tuple (by decide +kernel) (pa_cons (pv 1) pa_nil))))))), ?_⟩
    refine ⟨by decide, fun z hz => ?_⟩
    have hsum := grp_sum l
    have hcl : l.count true ≤ l.length := List.count_le_length
    have hgl := grp_len l
    have hcf : l.count false ≤ l.length := List.count_le_length
    refine ⟨_, rfl, ⟨_, rfl⟩, _, _, rfl, rfl, by decide +kernel, by rw [rgS_len]; have := sizeLine_eq; omega, fun u hu => ?_⟩
    rw [split_o]
    refine ⟨u, rfl, ⟨_, SqL.of upd_same⟩, ?_⟩
    have zu : z ≠ u := ne_of_none upd_same hu
    refine for_list (xs := ((grp l).map sS).map V.str) (fun i σ H' => ∃ vp ys, σ = [some (.str (rgS l)), some (.ref z), some (.int ((((grp l).take i).sum : Nat) : Int)), vp] ∧ Same H H' ∧ H' u = some (.lst (((grp l).map sS).map V.str)) ∧ H' z = some (.lst ys) ∧ ys.length = i ∧ Dts K H' ys (((zones l).take i).map natsD))
      ⟨none, [], rfl, (same_new hz).trans (same_new hu), upd_same, by rw [upd_ne zu]; exact upd_same, rfl, by simp; exact .nil⟩ (fun i σ H' _ h => by obtain ⟨_, _, _, _, h, _⟩ := h; exact SqL.of h) (fun i x σ H' hx hP => ?_) (fun σ H' hP => ?_)
    · obtain ⟨vp, ys, rfl, sm, hu', hz', el, hds⟩ := hP
      rw [List.map_map, List.getElem?_map] at hx
      obtain ⟨g, hg, rfl⟩ := Option.map_eq_some_iff.mp hx
      have ts := sum_take_succ hg
      have tl1 := sum_take_le (grp l) (i + 1)
      have li := (List.getElem?_eq_some_iff.mp hg).1
      refine ⟨_, rfl, .inl ⟨rfl, _, SqL.of hz'⟩, ?_⟩
      refine ⟨_, rfl, _, rfl, _, rfl, _, rfl, by rw [sS_len]; exact small_len (by omega), _, _, rfl, rfl, _, _, rfl, rfl, RgOk.of_le (by omega) (by rw [sS_len]; omega) (by omega) (by rw [sS_len]; omega), fun q hq => ?_⟩
      rw [sS_len, rgV_nats]
      have zq : z ≠ q := ne_of_none hz' hq
      refine ⟨_, _, _, rfl, rfl, by rw [upd_ne zq]; exact hz', by rw [el]; exact small1000 (by omega), ?_⟩
      refine ⟨_, rfl, _, rfl, _, rfl, by rw [sS_len]; exact small_len (by omega), _, _, rfl, rfl, ?_⟩
      have zq2 : H' q = none := hq
      have uz : u ≠ z := zu.symm
      have uq : u ≠ q := ne_of_none hu' hq
      refine ⟨some (.str (sS g)), ys ++ [V.ref q], ?_, same_mut (sm.trans (same_new hq)) hz, ?_, upd_same, by rw [List.length_append, el]; rfl, ?_⟩
      · rw [sS_len, ts, Int.natCast_add]
        rfl
      · rw [upd_ne uz, upd_ne uq]
        exact hu'
      · have e2 : (zones l)[i]? = some (List.range' (((grp l).take i).sum) g) := by
          have := zn_at (grp l) 0 i g hg
          rw [Nat.zero_add] at this
          exact this
        rw [List.take_add_one, e2, List.map_append]
        have k5 : Kt K (upd H' q (.tup (nV (List.range' ((grp l).take i).sum g)))) (upd (upd H' q (.tup (nV (List.range' ((grp l).take i).sum g)))) z (.lst (ys ++ [V.ref q]))) := Kt.lst (by rw [upd_ne zq]; exact hz')
        refine ((hds.k (Kt.new hq)).k k5).snoc (Dt.k ?_ k5)
        exact dt_tup upd_same (dts_nats _)
    · obtain ⟨vp, ys, rfl, sm, hu', hz', el, hds⟩ := hP
      refine ⟨_, rfl, z, ys, rfl, .inl ⟨SqL.of hz', fun r hr' => ?_⟩⟩
      refine k _ _ (sm.trans (same_new hr')) (dt_tup upd_same (Dts.k ?_ (Kt.new hr')))
      rw [show (((grp l).map sS).map V.str).length = (zones l).length by rw [List.length_map, List.length_map]; exact (zn_len _ _).symm, List.take_length] at hds
      exact hds
theorem Mk_ring {C : Addr} {H' : Hp} {p dx : Addr} {l : List Bool} {y : V} (e : H' p = some (.ins C dx [("text", .str (rgS l)), ("seekers", .int ((l.count true : Nat) : Int)), ("zones", y)])) (t : Dt K H' y (zonesD l)) : RingAt K C H' p l :=
  ⟨dx, _, y, e, rfl, rfl, rfl, fun m a b c => by
    simp only [List.lookup]
    rw [beq_false_of_ne a, beq_false_of_ne b, beq_false_of_ne c], t⟩
theorem ok_init (T : Txt K mg) : FnOk P w K mg base (L2.CX P w) 3 T.a_init T.d_init ["self", "text"] (sp_init K T.C T.CR) := by
  refine T.F_init.okX sc_init (fun vs H Q E h => ?_) (fun cdv A outer s H vs Q E hr h => ?_)
  · obtain ⟨p, dx, x, rfl, _⟩ := h
    rfl
  · obtain ⟨p, dx, x, rfl, hp, h⟩ := h
    refine ⟨_, (pss_cons (ps_if (pt_not (pt_val (pe_call (ok_is_ring_text T) (hr.mono (by decide)) (by rfl) T.g_is_ring_text T.F_is_ring_text.kp T.b_is_ring_text .nil pass0 (pa_cons (pv 1) pa_nil))))
        (pss_one (ps_raiseLowR rfl T.lowR hr (takes_of rfl rfl rfl rfl) (by exact (pa_cons (pv 1) pa_nil))))
        pss_nil)
      (pss_cons (ps_fld (pv 0) (pv 1) rfl)
      (pss_cons (ps_fld (pv 0) (pe_bm PySem.F.plainAttrs_str PySem.F.slot_str_count PySem.F.type_str_count mt_count (pv 1) (pa_cons (pe_glob (v := V.str "s") rfl T.c_SEEKER ⟨_, rfl⟩) pa_nil)) rfl)
      (pss_one (ps_fld (pv 0) (pe_call (ok_zones_of T) (hr.mono (by decide)) (by rfl) T.g_zones_of T.F_zones_of.kp T.b_zones_of .nil pass0 (pa_cons (pv 1) pa_nil)) rfl))))), ?_⟩
    rcases h with ⟨l, rfl, R, k⟩ | ⟨hn, er⟩
    · have hl := R.len
      refine ⟨_, rfl, _, rfl, .inl ⟨_, rfl, by rw [rgS_len]; omega, fun H1 b s1 hb => ?_⟩⟩
      have e : b = true := hb.mpr ((ring_iff l).mpr R)
      subst e
      refine ⟨true, rfl, iteF ?_⟩
      refine ⟨_, rfl, _, rfl, p, T.C, dx, [], rfl, s1 _ _ hp, T.clC, T.nT, by show 0 < 1000; decide, ?_⟩
      refine ⟨_, rfl, rfl, _, _, rfl, rfl, _, rfl, p, T.C, dx, _, rfl, upd_same, T.clC, T.nS, by show 1 < 1000; decide, ?_⟩
      rw [upd_upd, count_s]
      refine ⟨_, rfl, l, rfl, hl, fun H2 y s2 ty => ?_⟩
      have hp2 := s2 _ _ upd_same
      refine ⟨_, rfl, p, T.C, dx, _, rfl, hp2, T.clC, T.nZ, by show 2 < 1000; decide, ?_⟩
      refine k _ (fun q o nq e => ?_) (Mk_ring (dx := dx) (y := y) upd_same (ty.k (Kt.set hp2 (fun _ z => by cases z) (fun _ _ z => by cases z))))
      rw [upd_ne nq]
      refine s2 _ _ ?_
      rw [upd_ne nq]
      exact s1 _ _ e
    · rcases hn with ⟨t, rfl, hl, no⟩ | no
      · refine ⟨_, rfl, _, rfl, .inl ⟨_, rfl, hl, fun H1 b s1 hb => ?_⟩⟩
        have e : b = false := by
          cases b with
          | false => rfl
          | true => exact absurd (hb.mp rfl) no
        subst e
        exact ⟨false, rfl, iteT ⟨_, rfl, _, rfl, fun d hd => er _ d (s1.trans (same_new hd)) upd_same⟩⟩
      · exact ⟨_, rfl, _, rfl, .inr ⟨no, ⟨false, rfl, iteT ⟨_, rfl, _, rfl, fun d hd => er _ d (same_new hd) upd_same⟩⟩⟩⟩
theorem made {H : Hp} {p dx C : Addr} (hp : H p = none) (hd : H dx = none) (ne : dx ≠ p) : Same H (upd (upd H dx (.own p)) p (.ins C dx [])) :=
  (same_new hd).trans (same_new (by rw [upd_ne (Ne.symm ne)]; exact hp))
theorem made_off {H H' : Hp} {p dx C : Addr} (hp : H p = none) (hd : H dx = none) (ne : dx ≠ p) (off : ∀ q o, q ≠ p → upd (upd H dx (.own p)) p (.ins C dx []) q = some o → H' q = some o) : Same H H' :=
  fun q o e => off q o (ne_of_none e hp) (made hp hd ne q o e)
theorem wdS_t : wdS true = ("cut" : Str) := rfl
theorem allF_succ (n : Nat) : allF (n + 1) = allF n ++ [(true, n), (false, n)] := by
  unfold allF
  rw [List.range_succ, List.flatMap_append]
  simp
theorem allF_len (n : Nat) : (allF n).length = 2 * n := by
  induction n with
  | zero => rfl
  | succ n ih => rw [allF_succ, List.length_append, ih]; simp only [List.length_cons, List.length_nil]; omega
theorem ok_all_faults (T : Txt K mg) : FnOk P w K mg base CX0 1 T.a_all_faults T.d_all_faults ["self"] (sp_all_faults K T.C) := by
  refine T.F_all_faults.ok sc_all_faults (fun vs H Q E h => ?_) (fun cdv A outer s H vs Q E hr h => ?_)
  · obtain ⟨p, l, rfl, _⟩ := h
    rfl
  · obtain ⟨p, l, rfl, hR, hl, k⟩ := h
    obtain ⟨dx, fs, z, hp, l1, l2, l3, l4, t⟩ := id hR
    refine ⟨_, (pss_one (ps_ret (pe_callTy call_tuple_of (by rfl) T.z_tuple (by decide +kernel) (pa_cons (pe_lc2 (own := [("stretch", 1), ("word", 2)]) (g := gName 1) (tt := tYes) (g1 := gName 2) (tt1 := tYes) (vs1 := [2]) rfl sc_all_faults.nd (pi_range1 (by rfl) T.z_range (pa_cons (pe_op op_add (pe_callB call_len_str (by rfl) T.z_len PySem.boot_len (pa_cons (pe_fld (pv 0) rfl) pa_nil)) pe_int) pa_nil)) (blkOk_by (own := [("stretch", 1), ("word", 2)]) (N := nm_all_faults) (sc := (defScope s_all_faults)) (by decide +kernel)) (by decide) (fun _ _ _ _ _ => pg_name (i := 1) sc_all_faults.nd rfl (Or.inl rfl)) (fun _ _ _ _ _ => pts_nil) (fun _ _ _ _ _ => (show PI _ _ _ (iTup K (tTup (tCons (tC (V.str "cut")) (tCons (tC (V.str "short")) tNil)))) from pi_tup (pe_tup (pa_cons (pe_glob (v := V.str "cut") rfl T.c_CUT ⟨_, rfl⟩) (pa_cons (pe_glob (v := V.str "short") rfl T.c_SHORT ⟨_, rfl⟩) pa_nil))))) (fun _ _ _ _ _ => pg_name (i := 2) sc_all_faults.nd rfl (Or.inl rfl)) (fun _ _ _ _ _ => pts_nil) (fun _ _ _ _ _ => (pe_tup (pa_cons (pv 2) (pa_cons (pv 1) pa_nil))))) pa_nil)))), ?_⟩
    refine ⟨_, rfl, p, T.C, dx, fs, _, rfl, hp, T.clC, T.nT, l1, _, rfl, rg_small (by omega), _, _, rfl, rfl, _, rfl, by rw [rgS_len]; omega, by rw [rgS_len]; omega, fun D hD => ?_⟩
    rw [rgS_len, show ((((l.length : Nat) : Int) + 1)).toNat = l.length + 1 by omega]
    refine Et.out_it walk_range (fun i H' => Same H H' ∧ ∃ ys, H' D = some (.lst ys) ∧ Dts K H' ys ((allF i).map ftD)) ⟨same_new hD, [], upd_same, .nil⟩ (fun _ _ _ _ => trivial) (fun i x H2 H' hi hP hY => ?_) (fun H2 hP => ?_)
    · obtain ⟨sm, ys, hy, hys⟩ := hP
      obtain ⟨rfl, rfl⟩ := hY
      have ly := hys.len
      rw [List.length_map, allF_len] at ly
      refine ⟨rfl, yesT ?_⟩
      refine ⟨by decide, fun u hu => ?_⟩
      have uD : D ≠ u := ne_of_none hy hu
      refine ⟨u, rfl, ⟨_, SqT.of upd_same⟩, ?_⟩
      refine Et.in_it walk_tup (fun j H3 => Same H H3 ∧ H3 u = some (.tup [.str "cut", .str "short"]) ∧ ∃ ys, H3 D = some (.lst ys) ∧ Dts K H3 ys ((allF i ++ [(true, i), (false, i)].take j).map ftD)) ⟨sm.trans (same_new hu), upd_same, ys, at_old hy hu, by simpa using hys.k (Kt.new hu)⟩ (fun j H3 _ h => SqT.of h.2.1) (fun j x H3 H4 hj hP hY => ?_) (fun H3 hP => ?_)
      · obtain ⟨sm3, hu3, ys3, hy3, hys3⟩ := hP
        obtain ⟨rfl, hx⟩ := hY
        refine ⟨rfl, yesT ?_⟩
        have hj2 : j < 2 := hj
        have ly3 := hys3.len
        rw [List.length_map, List.length_append, allF_len, List.length_take] at ly3
        refine ⟨_, rfl, _, rfl, by show 2 ≤ sizeLine; decide, fun v hv => ?_⟩
        have vD : D ≠ v := ne_of_none hy3 hv
        have hy4 := at_old (q := v) (u := .tup [x, (fun i => V.int (0 + ((i : Nat) : Int))) i]) hy3 hv
        refine ⟨ys3, hy4, small1000 (by have : i < l.length + 1 := hi; omega), same_mut (sm3.trans (same_new hv)) hD, by rw [upd_ne uD.symm]; exact at_old hu3 hv, _, upd_same, ?_⟩
        have k5 : Kt K (upd H4 v (.tup [x, (fun i => V.int (0 + ((i : Nat) : Int))) i])) (upd (upd H4 v (.tup [x, (fun i => V.int (0 + ((i : Nat) : Int))) i])) D (.lst (ys3 ++ [.ref v]))) := Kt.lst hy4
        obtain ⟨b, hb, ex⟩ : ∃ b, [(true, i), (false, i)][j]? = some (b, i) ∧ x = .str (wdS b) := by
          match j, hj2 with
          | 0, _ => exact ⟨true, rfl, (Option.some.inj hx).symm⟩
          | 1, _ => exact ⟨false, rfl, (Option.some.inj hx).symm⟩
        rw [List.take_add_one, hb, ← List.append_assoc, List.map_append]
        refine ((hys3.k (Kt.new hv)).k k5).snoc (Dt.k (dt_tup upd_same ?_) k5)
        rw [ex]
        show Dts K _ [V.str (wdS b), V.int (0 + (i : Nat))] [PyData.str (wdS b), PyData.int ((i : Nat) : Int)]
        rw [Int.zero_add]
        exact .cons (.str _) (.cons (.int _) .nil)
      · obtain ⟨sm3, hu3, ys3, hy3, hys3⟩ := hP
        rw [show ([V.str "cut", V.str "short"] : List V).length = 2 from rfl] at hys3
        have hys3 : Dts K H3 ys3 ((allF i ++ [(true, i), (false, i)]).map ftD) := hys3
        rw [← allF_succ] at hys3
        exact ⟨sm3, ys3, hy3, hys3⟩
    · obtain ⟨sm, ys, hy, hys⟩ := hP
      refine ⟨D, ys, rfl, .inl ⟨SqL.of hy, fun q9 hq9 => ?_⟩⟩
      exact k _ _ (sm.trans (same_new hq9)) (dt_tup upd_same (hys.k (Kt.new hq9)))
end
end K52

namespace K52
open PySem L2 Wm TL Dv Rm Lo
section
variable {P : Program} {w : World} {K : PySem.W.Frag} {mg : Str → Option Value} {base : Heap}
theorem wd_in (b : Bool) : inV (.str (wdS b)) [V.str "cut", V.str "short"] = true := by cases b <;> decide +kernel
theorem odd_ways {H : Hp} {n : Nat} {x : V} (o : Odd K H n x) : (∃ ty, TyX K H x (.type ty) ∧ PySem.W.kitOne K (.type ty) (.type "tuple") = some false) ∨ (∃ q xs, x = .ref q ∧ SqT K H q xs ∧ xs.length ≠ 2) ∨
    ∃ q a b, x = .ref q ∧ SqT K H q [a, b] ∧ flatV a = true ∧ (inV a [V.str "cut", V.str "short"] = false ∨ ∃ o, Thing K H b o ∧ within 0 n o = false) := by
  cases o with
  | non => exact .inl ⟨_, .base .non, kit_ty (by decide +kernel)⟩
  | int i => exact .inl ⟨_, .base (.int _), kit_ty (by decide +kernel)⟩
  | lst h => exact .inl ⟨_, tyL h, kit_ty (by decide +kernel)⟩
  | len h e => exact .inr (.inl ⟨_, _, rfl, h, e⟩)
  | fst h a b => exact .inr (.inr ⟨_, _, _, rfl, h, a, .inl b⟩)
  | snd h a t b => exact .inr (.inr ⟨_, _, _, rfl, h, a, .inr ⟨_, t, b⟩⟩)
theorem ok_check_fault (T : Txt K mg) : FnOk P w K mg base (L2.CX P w) 3 T.a_check_fault T.d_check_fault ["self", "thing"] (sp_check_fault K T.C T.CF) := by
  refine T.F_check_fault.okX sc_check_fault (fun vs H Q E h => ?_) (fun cdv A outer s H vs Q E hr h => ?_)
  · obtain ⟨p, x, l, rfl, _⟩ := h
    rfl
  · obtain ⟨p, x, l, rfl, hR, hl, h⟩ := h
    obtain ⟨dx, fs, y, hp, l1, l2, l3, l4, t⟩ := id hR
    refine ⟨_, (pss_cons (ps_if (PW.pt (pw_or (pt_not (pt_val (pe_callB call_isi (by rfl) T.z_isinstance (by decide +kernel) (pa_cons (pv 1) (pa_cons (pe_bltn (v := V.ty "tuple") (by rfl) T.z_tuple (by decide +kernel) rfl) pa_nil))))) (pw_or1 (pt_cmpR op_ne (pe_callB call_len_seq (by rfl) T.z_len PySem.boot_len (pa_cons (pv 1) pa_nil)) pe_int (nomark _)))))
        (pss_one (ps_raiseLowF rfl T.lowF hr (takes_of rfl rfl rfl rfl) (by exact (pa_cons (pv 1) pa_nil))))
        pss_nil)
      (pss_one (ps_if (PW.pt (pw_or (pt_cmpR op_notIn_seq (pe_ix ix_tup (pv 1) pe_int (fun _ _ => rfl)) (pe_tup (pa_cons (pe_glob (v := V.str "cut") rfl T.c_CUT ⟨_, rfl⟩) (pa_cons (pe_glob (v := V.str "short") rfl T.c_SHORT ⟨_, rfl⟩) pa_nil))) rfl) (pw_or1 (pt_not (pt_val (pe_call (ok_is_whole_within T) (hr.mono (by decide)) (by rfl) T.g_is_whole_within T.F_is_whole_within.kp T.b_is_whole_within .nil pass0 (pa_cons (pe_ix ix_tup (pv 1) pe_int (fun _ _ => rfl)) (pa_cons pe_int (pa_cons (pe_callB call_len_str (by rfl) T.z_len PySem.boot_len (pa_cons (pe_fld (pv 0) rfl) pa_nil)) pa_nil)))))))))
        (pss_one (ps_raiseLowF rfl T.lowF hr (takes_of rfl rfl rfl rfl) (by exact (pa_cons (pv 1) pa_nil))))
        pss_nil))), ?_⟩
    rcases h with ⟨f, hd, hf, k⟩ | ⟨o, er⟩
    · obtain ⟨q, xs, rfl, hS, hds⟩ := hd.inv
      cases hds with
      | cons a r => cases r with
        | cons b r =>
          cases r
          rw [a.str_inv, b.int_inv] at hS
          refine ⟨_, rfl, _, _, _, _, true, rfl, .ty "tuple", tyT hS, kit_ty (by decide +kernel), true, rfl, iteF ?_⟩
          refine ⟨_, rfl, q, _, rfl, .inr hS, rfl, _, rfl, iteF ?_⟩
          refine ⟨_, rfl, q, _, _, _, rfl, rfl, hS, atI_nat (j := 0) rfl, by decide, fun u hu => ?_⟩
          have s1 : Same H (upd H u (.tup [.str "cut", .str "short"])) := same_new hu
          refine ⟨u, _, rfl, .inr (SqT.of upd_same), rfl, rfl, _, rfl, ?_⟩
          rw [if_pos rfl, wd_in]
          refine iteF ?_
          refine ⟨_, rfl, q, _, _, _, rfl, rfl, sameT s1 hS, atI_nat (j := 1) rfl, _, rfl, p, T.C, dx, fs, _, rfl, s1 _ _ hp, T.clC, T.nT, l1, _, rfl, rg_small (by omega), ?_⟩
          refine ⟨_, _, _, _, rfl, .int _, ?_⟩
          have e : within 0 (((rgS l).length : Nat) : Int) (some ((f.2 : Nat) : Int)) = true := by
            rw [rgS_len]
            show (decide ((0 : Int) ≤ ((f.2 : Nat) : Int)) && decide (((f.2 : Nat) : Int) ≤ ((l.length : Nat) : Int))) = true
            rw [decide_eq_true (by omega), decide_eq_true (by omega)]
            rfl
          rw [e]
          refine ⟨true, rfl, iteF ?_⟩
          exact k _ s1
    · rcases odd_ways o with ⟨ty, hty, hk⟩ | ⟨q, xs, rfl, hS, e⟩ | ⟨q, a, b, rfl, hS, fa, hw⟩
      · exact ⟨_, rfl, _, _, _, _, false, rfl, .ty "tuple", hty, hk, false, rfl, iteT ⟨_, rfl, _, rfl, fun d hd => er _ d (same_new hd) upd_same⟩⟩
      · refine ⟨_, rfl, _, _, _, _, true, rfl, .ty "tuple", tyT hS, kit_ty (by decide +kernel), true, rfl, iteF ?_⟩
        exact ⟨_, rfl, q, _, rfl, .inr hS, rfl, _, rfl, iteY (by rw [decide_eq_false (show ¬ V.int ((xs.length : Nat) : Int) = V.int 2 from fun z => e (by have := V.int.inj z; omega))]; rfl) ⟨_, rfl, _, rfl, fun d hd => er _ d (same_new hd) upd_same⟩⟩
      · refine ⟨_, rfl, _, _, _, _, true, rfl, .ty "tuple", tyT hS, kit_ty (by decide +kernel), true, rfl, iteF ?_⟩
        refine ⟨_, rfl, q, _, rfl, .inr hS, rfl, _, rfl, iteF ?_⟩
        refine ⟨_, rfl, q, _, _, _, rfl, rfl, hS, atI_nat (j := 0) rfl, by decide, fun u hu => ?_⟩
        have s1 : Same H (upd H u (.tup [.str "cut", .str "short"])) := same_new hu
        refine ⟨u, _, rfl, .inr (SqT.of upd_same), fa, rfl, _, rfl, ?_⟩
        rw [if_pos rfl]
        cases e : inV a [V.str "cut", V.str "short"] with
        | false => exact iteT ⟨_, rfl, _, rfl, fun d hd => er _ d (s1.trans (same_new hd)) upd_same⟩
        | true =>
          rcases hw with hw | ⟨o, ht, hw⟩
          · rw [e] at hw
            cases hw
          · refine iteF ⟨_, rfl, q, _, _, _, rfl, rfl, sameT s1 hS, atI_nat (j := 1) rfl, _, rfl, p, T.C, dx, fs, _, rfl, s1 _ _ hp, T.clC, T.nT, l1, _, rfl, rg_small (by omega), b, o, _, _, rfl, ht.k s1, ?_⟩
            rw [rgS_len, hw]
            exact ⟨false, rfl, iteT ⟨_, rfl, _, rfl, fun d hd => er _ d (s1.trans (same_new hd)) upd_same⟩⟩
theorem no_meth (m : Str) (a : decide (m = "text") = false) (b : decide (m = "seekers") = false) (c : decide (m = "zones") = false) {fs : List (Str × V)} (l4 : ∀ m : Str, m ≠ "text" → m ≠ "seekers" → m ≠ "zones" → fs.lookup m = none) : fs.lookup m = none :=
  l4 m (of_decide_eq_false a) (of_decide_eq_false b) (of_decide_eq_false c)
theorem ok_check_faults (T : Txt K mg) : FnOk P w K mg base (L2.CX P w) 4 T.a_check_faults T.d_check_faults ["self", "faults"] (sp_check_faults K T.C T.CF) := by
  refine T.F_check_faults.okX sc_check_faults (fun vs H Q E h => ?_) (fun cdv A outer s H vs Q E hr h => ?_)
  · obtain ⟨p, q, l, rfl, _⟩ := h
    rfl
  · obtain ⟨p, q, l, rfl, hR, hl, h⟩ := h
    obtain ⟨dx, fs0, y, hp, l1, l2, l3, l4, t⟩ := id hR
    refine ⟨_, (pss_one (ps_for (passes_of rfl) rfl (Kd.pi_seq (pv 1)) (pg_name (i := 2) sc_check_faults.nd rfl (Or.inl rfl))
        (pss_one (ps_expr (MS.pe_methS (pv 0) T.clC T.m_check_fault (ok_check_fault T) (hr.mono (by decide)) T.b_check_fault (fun σ => passAt (takes_of rfl rfl rfl rfl) σ) (by exact (pa_cons (pv 2) pa_nil))))))), ?_⟩
    rcases h with ⟨fs, ⟨tt, xs, hS, hds⟩, ⟨hf1, hf2⟩, k⟩ | ⟨x, ⟨tt, pr, post, fs, hS, hds, ⟨hf1, hf2⟩, o⟩, er⟩
    · refine ⟨_, rfl, q, xs, tt, rfl, hS, fun J GG w hG => ?_⟩
      refine for_it w (fun i σ H' => ∃ vf, σ = [some (.ref p), some (.ref q), vf] ∧ Same H H') ⟨none, rfl, Same.refl _⟩ (fun i σ H' _ h => by obtain ⟨_, _, sm⟩ := h; exact hG _ (hS.keep sm)) (fun i x σ H1 H2 hi hP hY => ?_) (fun σ H' hP => ?_)
      · obtain ⟨vf, rfl, sm⟩ := hP
        obtain ⟨rfl, hx⟩ := hY
        obtain ⟨d, hd, a⟩ := hds.at hx
        rw [List.getElem?_map] at hd
        obtain ⟨f, hf, rfl⟩ := Option.map_eq_some_iff.mp hd
        refine ⟨_, rfl, p, dx, fs0, rfl, sm _ _ hp, no_meth "check_fault" (by decide +kernel) (by decide +kernel) (by decide +kernel) l4, _, rfl, ?_⟩
        refine ⟨p, x, l, rfl, hR.k sm, hl, .inl ⟨f, a.k (Kt.same sm), hf2 f (List.mem_of_getElem? hf), fun H3 s3 => ?_⟩⟩
        exact ⟨_, rfl, sm.trans s3⟩
      · obtain ⟨vf, rfl, sm⟩ := hP
        exact k _ sm
    · refine ⟨_, rfl, q, _, tt, rfl, hS, fun J GG w hG => ?_⟩
      have el := hds.len
      rw [List.length_map] at el
      refine for_it w (fun i σ H' => ∃ vf, σ = [some (.ref p), some (.ref q), vf] ∧ Same H H' ∧ i ≤ pr.length) ⟨none, rfl, Same.refl _, Nat.zero_le _⟩ (fun i σ H' _ h => by obtain ⟨_, _, sm, _⟩ := h; exact hG _ (hS.keep sm)) (fun i y σ H1 H2 hi hP hY => ?_) (fun σ H' hP => ?_)
      · obtain ⟨vf, rfl, sm, ip⟩ := hP
        obtain ⟨rfl, hx⟩ := hY
        refine ⟨_, rfl, p, dx, fs0, rfl, sm _ _ hp, no_meth "check_fault" (by decide +kernel) (by decide +kernel) (by decide +kernel) l4, _, rfl, ?_⟩
        by_cases c : i < pr.length
        · rw [List.getElem?_append_left c] at hx
          obtain ⟨d, hd, a⟩ := hds.at hx
          rw [List.getElem?_map] at hd
          obtain ⟨f, hf, rfl⟩ := Option.map_eq_some_iff.mp hd
          refine ⟨p, y, l, rfl, hR.k sm, hl, .inl ⟨f, a.k (Kt.same sm), hf2 f (List.mem_of_getElem? hf), fun H3 s3 => ?_⟩⟩
          exact ⟨_, rfl, sm.trans s3, c⟩
        · have e : i = pr.length := by omega
          subst e
          rw [List.getElem?_append_right (Nat.le_refl _), Nat.sub_self] at hx
          have ex : x = y := Option.some.inj hx
          subst ex
          exact ⟨p, x, l, rfl, hR.k sm, hl, .inr ⟨o.k sm, fun H3 dd s3 hd3 => er _ dd (sm.trans s3) hd3⟩⟩
      · obtain ⟨vf, rfl, sm, ip⟩ := hP
        rw [List.length_append, List.length_cons] at ip
        omega
end
end K52

namespace K52
open PySem L2 Wm TL Dv Rm Lo
section
variable {P : Program} {w : World} {K : PySem.W.Frag} {mg : Str → Option Value} {base : Heap}
theorem fmod_in {x l : Int} (h : 0 < l) : 0 ≤ x % l ∧ x % l < l := ⟨Int.emod_nonneg x (by omega), Int.emod_lt_of_pos x h⟩
theorem y_in {x : Int} {l : Int} (h : 0 < l) (g : l ≤ 2147483648) : 0 ≤ x % l ∧ x % l < 2147483648 := by
  have := (fmod_in (x := x) h).2
  exact ⟨(fmod_in h).1, by omega⟩
theorem ok_open (T : Txt K mg) : FnOk P w K mg base CX0 1 T.a_open T.d_open ["_law_script"] (sp_open K) := by
  refine T.F_open.ok sc_open (fun vs H Q E h => ?_) (fun cdv A outer s H vs Q E hr h => ?_)
  · obtain ⟨a, ns, rfl, _⟩ := h
    rfl
  · obtain ⟨a, ns, rfl, hS, hlen, k⟩ := h
    refine ⟨_, (pss_one (ps_ret (pe_lst (pa_cons (pe_callTy call_list_of (by rfl) T.z_list (by decide +kernel) (pa_cons (pv 0) pa_nil)) (pa_cons pe_int (pa_cons pe_int (pa_cons pe_int (pa_cons pe_int pa_nil)))))))), ?_⟩
    refine ⟨_, rfl, a, _, rfl, .inl hS, fun p hp => ?_⟩
    refine ⟨by show 5 ≤ sizeLine; decide, fun b hb => ?_⟩
    exact k _ b ((same_new hp).trans (same_new hb)) ⟨p, 0, 0, 20011, 0, ns, upd_same, at_old upd_same hb, by decide, by decide, by decide, by decide, by decide, by decide⟩
theorem ok_draw (T : Txt K mg) : FnOk P w K mg base CX0 1 T.a_draw T.d_draw ["_law_state", "_law_many"] (sp_draw K) := by
  refine T.F_draw.ok sc_draw (fun vs H Q E h => ?_) (fun cdv A outer s H vs Q E hr h => ?_)
  · obtain ⟨b, n, lim, rfl, _⟩ := h
    rfl
  · obtain ⟨b, n, lim, rfl, l0, l1, ⟨c, k, x, y, z, ns, hb, hc, k0, x0, y0, y1, z0, zn⟩, hn, kk⟩ := h
    have hcb := bg_ne hb hc
    refine ⟨_, (pss_cons (ps_asg (pe_op op_add (pe_ix ix_list (pv 0) pe_int (fun _ _ => rfl)) pe_int) (pg_sub (pv 0) pe_int set_list))
      (C8.pss_cut (ps_if (PW.pt (pw_and (pt_cmpR op_eq (pe_ix ix_list (pv 0) pe_int (fun _ _ => rfl)) pe_int (nomark _)) (pw_and1 (pt_cmpR op_lt (pe_ix ix_list (pv 0) pe_int (fun _ _ => rfl)) (pe_callB call_len_seq (by rfl) T.z_len PySem.boot_len (pa_cons (pe_ix ix_list (pv 0) pe_int (fun _ _ => rfl)) pa_nil)) (nomark _)))))
        (pss_cons (ps_set (i := 2) sc_draw.nd rfl (Or.inl rfl) (pe_ix ix_list (pe_ix ix_list (pv 0) pe_int (fun _ _ => rfl)) (pe_ix ix_list (pv 0) pe_int (fun _ _ => rfl)) (fun _ _ => rfl)))
        (pss_cons (ps_asg (pe_op op_add (pe_ix ix_list (pv 0) pe_int (fun _ _ => rfl)) pe_int) (pg_sub (pv 0) pe_int set_list))
        (pss_cons (ps_asg (pe_op op_mod (pe_op op_add (pe_op op_add (pe_op op_mul (pe_ix ix_list (pv 0) pe_int (fun _ _ => rfl)) pe_int) (pe_op op_mod (pv 2) pe_int)) (pe_ix ix_list (pv 0) pe_int (fun _ _ => rfl))) pe_int) (pg_sub (pv 0) pe_int set_list))
        (pss_one (ps_if (PW.pt (pw_or (pt_cmpR op_ge (pv 2) (pe_op op_pow pe_int pe_int) (nomark _)) (pw_or1 (pt_cmpR op_le (pv 2) (pe_un un_neg (pe_op op_pow pe_int pe_int)) (nomark _)))))
          (pss_one (ps_asg (pe_callB call_abs (by rfl) T.z_abs (by decide +kernel) (pa_cons (pv 2) pa_nil)) (pg_sub (pv 0) pe_int set_list)))
          pss_nil)))))
        pss_nil)
      (pss_cons (ps_if (pt_cmpR op_gt (pe_ix ix_list (pv 0) pe_int (fun _ _ => rfl)) pe_int (nomark _))
        (pss_cons (ps_set (i := 3) sc_draw.nd rfl (Or.inl rfl) (pe_op op_mod (pe_ix ix_list (pv 0) pe_int (fun _ _ => rfl)) (pv 1)))
        (pss_cons (ps_asg (pe_op op_fdivW (pe_ix ix_list (pv 0) pe_int (fun _ _ => rfl)) (pv 1)) (pg_sub (pv 0) pe_int set_list))
        (pss_one (ps_ret (pv 3)))))
        pss_nil)
      (pss_cons (ps_asg (pe_op op_mod (pe_op op_add (pe_op op_add (pe_op op_mul (pe_ix ix_list (pv 0) pe_int (fun _ _ => rfl)) pe_int) (pe_op op_mul (pe_ix ix_list (pv 0) pe_int (fun _ _ => rfl)) pe_int)) pe_int) pe_int) (pg_sub (pv 0) pe_int set_list))
      (pss_one (ps_ret (pe_op op_mod (pe_op op_fdivW (pe_ix ix_list (pv 0) pe_int (fun _ _ => rfl)) pe_int) (pv 1)))))))), ?_⟩
    refine ⟨_, rfl, b, _, 4, _, rfl, rfl, SqL.of hb, atI_nat (j := 4) rfl, _, _, rfl, rfl, ?_⟩
    refine ⟨_, rfl, b, _, 4, 4, rfl, rfl, hb, rfl, ?_⟩
    have b1 : Bt b H (upd H b (.lst [.ref c, .int k, .int x, .int y, .int (z + 1)])) := Bt.set hb
    have hc1 : upd H b (.lst [.ref c, .int k, .int x, .int y, .int (z + 1)]) c = some (.lst (ns.map V.int)) := by rw [upd_ne hcb]; exact hc
    refine ⟨fun σ H1 => ∃ (k x y : Int) (vc : Option V), σ = [some (.ref b), some (.int lim), vc, none] ∧ 0 ≤ k ∧ 0 ≤ x ∧ 0 ≤ y ∧ y < 2147483648 ∧ Bt b H H1 ∧ H1 b = some (.lst [.ref c, .int k, .int x, .int y, .int (z + 1)]), ?_, ?_⟩
    · refine ⟨_, rfl, b, _, 2, _, rfl, rfl, SqL.of upd_same, atI_nat (j := 2) rfl, rfl, _, rfl, ite2 (fun h1 => ?_) (fun h1 => ?_)⟩
      · refine ⟨_, rfl, b, _, 1, _, rfl, rfl, SqL.of upd_same, atI_nat (j := 1) rfl, _, rfl, b, _, 0, _, rfl, rfl, SqL.of upd_same, atI_nat (j := 0) rfl, c, _, rfl, .inl (SqL.of hc1), _, _, rfl, rfl, _, rfl, ite2 (fun h2 => ?_) (fun h2 => ?_)⟩
        · have h3 := of_decide_eq_true h2
          rw [List.length_map] at h3
          have h4 : k.toNat < ns.length := by omega
          have g : (ns.map V.int)[k.toNat]? = some (.int ns[k.toNat]) := by rw [List.getElem?_map, List.getElem?_eq_getElem h4]; rfl
          refine ⟨_, rfl, b, _, 0, _, rfl, rfl, SqL.of upd_same, atI_nat (j := 0) rfl, _, rfl, b, _, 1, _, rfl, rfl, SqL.of upd_same, atI_nat (j := 1) rfl, c, _, k, _, rfl, rfl, SqL.of hc1, at_of (by omega) g, ?_⟩
          refine ⟨_, rfl, b, _, 1, _, rfl, rfl, SqL.of upd_same, atI_nat (j := 1) rfl, _, _, rfl, rfl, ?_⟩
          refine ⟨_, rfl, b, _, 1, 1, rfl, rfl, upd_same, rfl, ?_⟩
          refine ⟨_, rfl, b, _, 3, _, rfl, rfl, SqL.of upd_same, atI_nat (j := 3) rfl, _, _, rfl, rfl, .inr ⟨by decide, by decide⟩, ?_⟩
          refine ⟨_, rfl, _, _, rfl, rfl, (show (0 : Int) < 1000003 by decide), _, _, rfl, rfl, ?_⟩
          refine ⟨_, rfl, b, _, 4, _, rfl, rfl, SqL.of upd_same, atI_nat (j := 4) rfl, _, _, rfl, rfl, _, _, rfl, rfl, (show (0 : Int) < 2147483647 by decide), ?_⟩
          refine ⟨_, rfl, b, _, 3, 3, rfl, rfl, upd_same, rfl, ?_⟩
          have yy := y_in (x := y * 48271 + ns[k.toNat] % 1000003 + (z + 1)) (l := 2147483647) (by decide) (by decide)
          have b2 := (b1.trans (Bt.set (k' := k + 1) (x' := x) (y' := y) (z' := z + 1) upd_same)).trans (Bt.set (k' := k + 1) (x' := x) (y' := (y * 48271 + ns[k.toNat] % 1000003 + (z + 1)) % 2147483647) (z' := z + 1) upd_same)
          have a0 : (0 : Int) ≤ (if ns[k.toNat] < 0 then -ns[k.toNat] else ns[k.toNat]) := by split <;> omega
          refine ⟨_, rfl, _, _, rfl, rfl, ⟨by decide, by decide, by decide⟩, _, _, rfl, rfl, _, rfl, ite2 (fun h5 => ?_) (fun h5 => ?_)⟩
          · refine ⟨_, rfl, _, rfl, _, rfl, b, _, 2, 2, rfl, rfl, upd_same, rfl, ?_⟩
            exact ⟨k + 1, _, _, _, rfl, by omega, a0, yy.1, yy.2, b2.trans (Bt.set upd_same), upd_same⟩
          · refine ⟨_, rfl, _, _, rfl, rfl, ⟨by decide, by decide, by decide⟩, _, rfl, _, _, rfl, rfl, _, rfl, ite2 (fun h6 => ?_) (fun h6 => ?_)⟩
            · refine ⟨_, rfl, _, rfl, _, rfl, b, _, 2, 2, rfl, rfl, upd_same, rfl, ?_⟩
              exact ⟨k + 1, _, _, _, rfl, by omega, a0, yy.1, yy.2, b2.trans (Bt.set upd_same), upd_same⟩
            · exact ⟨k + 1, _, _, _, rfl, by omega, x0, yy.1, yy.2, b2, upd_same⟩
        · exact ⟨k, x, y, none, rfl, k0, x0, y0, y1, b1, upd_same⟩
      · exact ⟨k, x, y, none, rfl, k0, x0, y0, y1, b1, upd_same⟩
    · rintro σ H1 ⟨k, x, y, vc, rfl, k0, x0, y0, y1, but, hb⟩
      have hc2 : H1 c = some (.lst (ns.map V.int)) := but _ _ hcb hc
      refine ⟨_, rfl, b, _, 2, _, rfl, rfl, SqL.of hb, atI_nat (j := 2) rfl, _, _, rfl, rfl, _, rfl, ite2 (fun h1 => ?_) (fun h1 => ?_)⟩
      · refine ⟨_, rfl, b, _, 2, _, rfl, rfl, SqL.of hb, atI_nat (j := 2) rfl, _, rfl, _, _, rfl, rfl, l0, ?_⟩
        refine ⟨_, rfl, b, _, 2, _, rfl, rfl, SqL.of hb, atI_nat (j := 2) rfl, _, rfl, _, _, rfl, rfl, wide_div l0 (b := 100) (by omega) (by decide) (by decide), ?_⟩
        refine ⟨_, rfl, b, _, 2, 2, rfl, rfl, hb, rfl, ?_⟩
        refine ⟨_, rfl, kk _ _ (fmod_in l0).1 (fmod_in l0).2 ⟨c, k, _, y, z + 1, ns, upd_same, ?_, k0, Int.ediv_nonneg x0 (by omega), y0, y1, by omega, by omega⟩ (but.trans (Bt.set hb))⟩
        rw [upd_ne hcb]
        exact hc2
      · refine ⟨_, rfl, b, _, 3, _, rfl, rfl, SqL.of hb, atI_nat (j := 3) rfl, _, _, rfl, rfl, .inr ⟨by decide, by decide⟩, ?_⟩
        refine ⟨_, rfl, b, _, 4, _, rfl, rfl, SqL.of hb, atI_nat (j := 4) rfl, _, _, rfl, rfl, .inr ⟨by decide, by decide⟩, _, _, rfl, rfl, _, _, rfl, rfl, _, _, rfl, rfl, (show (0 : Int) < 2147483629 by decide), ?_⟩
        refine ⟨_, rfl, b, _, 3, 3, rfl, rfl, hb, rfl, ?_⟩
        have yy := y_in (x := y * 69621 + (z + 1) * 7919 + 17) (l := 2147483629) (by decide) (by decide)
        refine ⟨_, rfl, b, _, 3, _, rfl, rfl, SqL.of upd_same, atI_nat (j := 3) rfl, _, _, rfl, rfl, wide_div (by decide) (b := 100) (by decide) (by decide) (by decide), _, rfl, _, _, rfl, rfl, l0, ?_⟩
        refine kk _ _ (fmod_in l0).1 (fmod_in l0).2 ⟨c, k, x, _, z + 1, ns, upd_same, ?_, k0, x0, yy.1, yy.2, by omega, by omega⟩ (but.trans (Bt.set hb))
        rw [upd_ne hcb]
        exact hc2
end
end K52

namespace K52
open PySem L2 Wm TL Dv Rm Lo
section
variable {P : Program} {w : World} {K : PySem.W.Frag} {mg : Str → Option Value} {base : Heap}
theorem RingAt.txt {C : Addr} {H : Hp} {p : Addr} {l : List Bool} (h : RingAt K C H p l) : ∃ dx fs, H p = some (.ins C dx fs) ∧ fs.lookup ("text" : Str) = some (.str (rgS l)) ∧ ∀ m : Str, m ≠ "text" → m ≠ "seekers" → m ≠ "zones" → fs.lookup m = none := by
  obtain ⟨dx, fs, z, hp, l1, l2, l3, l4, t⟩ := h
  exact ⟨dx, fs, hp, l1, l4⟩
theorem ft_inv {H : Hp} {x : V} {f : Ft} (h : Dt K H x (ftD f)) : ∃ q, x = .ref q ∧ SqT K H q [.str (wdS f.1), .int ((f.2 : Nat) : Int)] := by
  obtain ⟨q, xs, rfl, hS, hds⟩ := h.inv
  cases hds with
  | cons a r => cases r with
    | cons b r =>
      cases r
      rw [a.str_inv, b.int_inv] at hS
      exact ⟨q, rfl, hS⟩
theorem ft_at {H : Hp} {xs : List V} {fs : List Ft} {i : Nat} {x : V} (h : Dts K H xs (fs.map ftD)) (hx : xs[i]? = some x) : ∃ f, fs[i]? = some f ∧ Dt K H x (ftD f) := by
  obtain ⟨d, hd, a⟩ := h.at hx
  rw [List.getElem?_map] at hd
  obtain ⟨f, hf, rfl⟩ := Option.map_eq_some_iff.mp hd
  exact ⟨f, hf, a⟩
theorem wd_short (b : Bool) : decide (V.str (wdS b) = V.str "short") = !b := by cases b <;> decide +kernel
def deadL (l : List Bool) (fs : List Ft) : List Nat := (fs.filter fun f => !f.1).map fun f => zone l f.2
theorem dead_snoc {l : List Bool} {fs : List Ft} {i : Nat} {f : Ft} (h : fs[i]? = some f) : deadL l (fs.take (i + 1)) = deadL l (fs.take i) ++ if f.1 then [] else [zone l f.2] := by
  unfold deadL
  rw [List.take_add_one, h, List.filter_append, List.map_append]
  cases e : f.1 <;> simp [e]
theorem dead_len (l : List Bool) (fs : List Ft) : (deadL l fs).length ≤ fs.length := by
  unfold deadL
  rw [List.length_map]
  exact List.length_filter_le _ _
theorem none_back {H H' : Hp} {D : Addr} (s : Same H H') (h : H' D = none) : H D = none := by
  cases e : H D with
  | none => rfl
  | some o =>
    rw [s _ _ e] at h
    cases h
theorem fts_lay : ∀ fs : List Ft, PyData.canLayAll0 (fs.map ftD) = true
  | [] => rfl
  | f :: fs => by
    have e : (ftD f).canLay0 = true := by cases h : f.1 <;> simp [ftD, wdS, h, PyData.canLay0, PyData.canLayAll0] <;> decide +kernel
    show ((ftD f).canLay0 && PyData.canLayAll0 (fs.map ftD)) = true
    rw [e, fts_lay fs]
    rfl
theorem eqv_ft (f : Ft) (k : Nat) : PyData.eqv (ftD f) (.tuple [.str "cut", .int (0 + ((k : Nat) : Int))]) = (f.1 && decide (f.2 = k)) := by
  cases h : f.1 with
  | false =>
    have e : (("short" : Str) == "cut") = false := by decide +kernel
    simp [ftD, wdS, h, PyData.eqv, PyData.eqvAll, e]
  | true =>
    by_cases c : f.2 = k
    · simp [ftD, wdS, h, PyData.eqv, PyData.eqvAll, c]
    · have c2 : ¬ ((f.2 : Nat) : Int) = ((k : Nat) : Int) := by omega
      simp [ftD, wdS, h, PyData.eqv, PyData.eqvAll, c, c2]
theorem inV_nV (a : Nat) (z : List Nat) : inV (.int ((a : Nat) : Int)) (nV z) = decide (a ∈ z) := by
  induction z with
  | nil => rfl
  | cons x z ih =>
    have e : inV (.int ((a : Nat) : Int)) (nV (x :: z)) = (decide (((x : Nat) : Int) = ((a : Nat) : Int)) || inV (.int ((a : Nat) : Int)) (nV z)) := by
      show (eqV (V.int ((x : Nat) : Int)) (.int ((a : Nat) : Int)) || _) = _
      rfl
    rw [e, ih]
    by_cases c : x = a
    · subst c
      simp
    · rw [decide_eq_false (show ¬ ((x : Nat) : Int) = ((a : Nat) : Int) by omega)]
      simp [Ne.symm c]
theorem closed_eq (l : List Bool) (fs : List Ft) (k : Nat) : (!opn l fs k) = ((fs.any fun f => f.1 && decide (f.2 = k)) || decide (zone l k ∈ deadL l fs)) := by
  induction fs with
  | nil => simp [opn, deadL]
  | cons f fs ih =>
    unfold opn at ih ⊢
    rw [List.all_cons, List.any_cons, Bool.not_and, ih]
    unfold deadL
    cases e : f.1 with
    | true =>
      rw [List.filter_cons_of_neg (by simp [e])]
      simp [Bool.or_assoc]
    | false =>
      simp only [e, Bool.false_eq_true, if_false, Bool.not_not, Bool.false_and, Bool.false_or]
      rw [List.filter_cons_of_pos (by simp [e]), List.map_cons]
      by_cases c : zone l f.2 = zone l k
      · rw [c]
        simp
      · have c2 : ¬ zone l k = zone l f.2 := fun z => c z.symm
        have c3 : (zone l k == zone l f.2) = false := beq_false_of_ne c2
        simp [c, c3]
theorem cut_lay (i : Int) : (PyData.tuple [.str "cut", .int i]).canLay0 = true := by
  simp [PyData.canLay0, PyData.canLayAll0]
  decide +kernel
theorem flat_nV (z : List Nat) : (nV z).all flatV = true := by
  unfold nV
  rw [List.all_map]
  exact List.all_eq_true.mpr fun _ _ => rfl
theorem ok_closed_stretches (T : Txt K mg) : FnOk P w K mg base CX0 2 T.a_closed_stretches T.d_closed_stretches ["self", "faults"] (sp_closed_stretches K T.C) := by
  refine T.F_closed_stretches.ok sc_closed_stretches (fun vs H Q E h => ?_) (fun cdv A outer s H vs Q E hr h => ?_)
  · obtain ⟨p, q, l, fs, rfl, _⟩ := h
    rfl
  · obtain ⟨p, q, l, fs, rfl, hR, hl, ⟨tt, xs, hS, hds⟩, ⟨f1, f2⟩, k⟩ := h
    obtain ⟨dx, fs0, hp, l1, l4⟩ := hR.txt
    have el := hds.len
    rw [List.length_map] at el
    refine ⟨_, (pss_cons (ps_set (i := 2) sc_closed_stretches.nd rfl (Or.inr rfl) (pe_lc (own := [("word", 3), ("stretch", 4)]) (g := gTup K 2 (gCons (gName 3) (gCons (gName 4) (gNil)))) rfl sc_closed_stretches.nd (Kd.pi_seq (pv 1)) (blkOk_by (own := [("word", 3), ("stretch", 4)]) (N := nm_closed_stretches) (sc := (defScope s_closed_stretches)) (by decide +kernel)) (fun _ _ _ _ _ => (pg_tup rfl (pgs_cons (pg_name (i := 3) sc_closed_stretches.nd rfl (Or.inl rfl)) (pgs_cons (pg_name (i := 4) sc_closed_stretches.nd rfl (Or.inl rfl)) pgs_nil)))) (fun _ _ _ _ _ => (pts_one (pt_cmpR op_eq (pv 3) (pe_glob (v := V.str "short") rfl T.c_SHORT ⟨_, rfl⟩) (nomark _)))) (fun _ _ _ _ _ => (pe_meth (pv 0) T.clC T.m_zone_of (ok_zone_of T) (hr.mono (by decide)) T.b_zone_of .nil pass0 (pa_cons (pv 4) pa_nil)))))
      (pss_cons (ps_set (i := 5) sc_closed_stretches.nd rfl (Or.inl rfl) (pe_callTy Rgv.cr_range1 (by rfl) T.z_range (by decide +kernel) (pa_cons (pe_op op_add (pe_callB call_len_str (by rfl) T.z_len PySem.boot_len (pa_cons (pe_fld (pv 0) rfl) pa_nil)) pe_int) pa_nil)))
      (pss_one (ps_ret (pe_lc (own := [("stretch", 4)]) (g := gName 4) (tt := tYes) rfl sc_closed_stretches.nd (Rgv.pi_rgv (pv 5)) (blkOk_by (own := [("stretch", 4)]) (N := nm_closed_stretches) (sc := (defScope s_closed_stretches)) (by decide +kernel)) (fun _ _ _ _ _ => pg_name (i := 4) sc_closed_stretches.nd rfl (Or.inl rfl)) (fun _ _ _ _ _ => pts_nil) (fun _ _ _ _ _ => (pe_or (pe_cmpR (show OpR _ _ (Ind.rInS K) from Ind.op_inS (Ind.room65 hr)) (pe_tup (pa_cons (pe_glob (v := V.str "cut") rfl T.c_CUT ⟨_, rfl⟩) (pa_cons (pv 4) pa_nil))) (pv 1) rfl) (pe_one (pe_cmpR (show OpR _ _ (rIn K false) from op_in_seq) (pe_meth (pv 0) T.clC T.m_zone_of (ok_zone_of T) (hr.mono (by decide)) T.b_zone_of .nil pass0 (pa_cons (pv 4) pa_nil)) (pv 2) rfl))))))))), ?_⟩
    refine ⟨_, rfl, q, xs, tt, rfl, hS, fun J GG wk hG D hD => ?_⟩
    refine lc_it wk (fun i H' => Same H H' ∧ H' D = some (.lst (nV (deadL l (fs.take i))))) ⟨same_new hD, upd_same⟩ (fun i H' _ h => hG _ (hS.keep h.1)) (fun i x H1 H2 hi hP hY => ?_) (fun H1 hP => ?_)
    · obtain ⟨sm, hL⟩ := hP
      obtain ⟨rfl, hx⟩ := hY
      obtain ⟨f, hf, a⟩ := ft_at hds hx
      obtain ⟨r, rfl, hr1⟩ := ft_inv (a.k (Kt.same sm))
      refine ⟨r, _, rfl, hr1, rfl, _, _, rfl, _, _, rfl, rfl, rfl, ?_⟩
      have ds := dead_snoc (l := l) hf
      have dl := dead_len l (fs.take i)
      rw [List.length_take] at dl
      refine ⟨_, rfl, rfl, _, rfl, ?_⟩
      rw [wd_short]
      cases ef : f.1 with
      | true =>
        refine iteF ⟨sm, ?_⟩
        rw [ds, ef, hL]
        simp
      | false =>
        rw [ef] at ds
        refine iteT ⟨_, rfl, p, dx, fs0, rfl, sm _ _ hp, no_meth "zone_of" (by decide +kernel) (by decide +kernel) (by decide +kernel) l4, _, rfl, ?_⟩
        refine ⟨p, f.2, l, rfl, hR.k sm, hl, _, hL, by unfold nV; rw [List.length_map]; exact small1000 (by omega), same_mut sm hD, ?_⟩
        rw [upd_same, ds]
        unfold nV
        rw [List.map_append]
        rfl
    · obtain ⟨sm, hL⟩ := hP
      rw [el, List.take_length] at hL
      have dl := dead_len l fs
      refine ⟨_, rfl, p, T.C, dx, fs0, _, rfl, sm _ _ hp, T.clC, T.nT, l1, _, rfl, rg_small (by omega), _, _, rfl, rfl, _, rfl, fun r hr1 => ?_⟩
      have s2 := sm.trans (same_new (o := .rng 0 ((((rgS l).length : Nat) : Int) + 1)) hr1)
      refine ⟨_, rfl, r, 0, _, rfl, upd_same, ⟨by decide, by decide, by rw [rgS_len]; omega, by rw [rgS_len]; omega⟩, fun D2 hD2 => ?_⟩
      have hS2 := hS.keep s2
      have hL2 : upd H1 r (.rng 0 ((((rgS l).length : Nat) : Int) + 1)) D = some (.lst (nV (deadL l fs))) := at_old hL hr1
      have e9 : (((((rgS l).length : Nat) : Int) + 1) - 0).toNat = l.length + 1 := by rw [rgS_len]; omega
      rw [e9]
      refine lc_it walk_range (fun i H' => Same (upd H1 r (.rng 0 ((((rgS l).length : Nat) : Int) + 1))) H' ∧ H' D2 = some (.lst (((List.range i).map fun k => V.bl (!opn l fs k))))) ⟨same_new hD2, upd_same⟩ (fun _ _ _ _ => trivial) (fun i x H2 H3 hi hP hY => ?_) (fun H2 hP => ?_)
      · obtain ⟨sm2, hL3⟩ := hP
        obtain ⟨rfl, rfl⟩ := hY
        have s3 := s2.trans sm2
        refine ⟨rfl, yesT ?_⟩
        (try dsimp only)
        refine ⟨_, rfl, by show 2 ≤ sizeLine; decide, fun u hu => ?_⟩
        have s4 := s3.trans (same_new (o := .tup [.str "cut", .int (0 + (i : Nat))]) hu)
        refine ⟨_, rfl, (.tuple [.str "cut", .int (0 + (i : Nat))]), fs.map ftD, tt, .tup (SqT.of upd_same) (.cons (.str _) (.cons (.int _) .nil)), Ind.isD (hS.keep s4) (hds.k (Kt.same s4)).toDp, cut_lay _, by simp [PyData.depth, PyData.depthAll], fts_lay fs, ?_⟩
        have a1 : (fs.map ftD).any (fun z => PyData.eqv z (.tuple [.str "cut", .int (0 + (i : Nat))])) = fs.any fun f => f.1 && decide (f.2 = i) := by
          rw [List.any_map]
          congr 1
          funext f
          exact eqv_ft f i
        rw [a1]
        have ce := closed_eq l fs i
        have lr : ∀ b : Bool, b = (!opn l fs i) → ((List.range i).map fun k => V.bl (!opn l fs k)) ++ [V.bl b] = (List.range (i + 1)).map fun k => V.bl (!opn l fs k) := fun b e => by
          rw [e, List.range_succ, List.map_append]
          rfl
        have hi11 : i ≤ 10 := by
          have : i < l.length + 1 := hi
          omega
        have u2 := at_old (q := u) (u := .tup [.str "cut", .int (0 + (i : Nat))]) hL3 hu
        cases ea : fs.any fun f => f.1 && decide (f.2 = i) with
        | true =>
          refine ⟨_, rfl, iteT ⟨_, u2, by rw [List.length_map, List.length_range]; exact small1000 (by omega), same_mut (sm2.trans (same_new hu)) hD2, ?_⟩⟩
          rw [upd_same, lr true (by rw [ce, ea]; rfl)]
        | false =>
          refine ⟨_, rfl, iteF ?_⟩
          refine ⟨_, rfl, p, dx, fs0, rfl, s4 _ _ hp, no_meth "zone_of" (by decide +kernel) (by decide +kernel) (by decide +kernel) l4, _, rfl, ?_⟩
          refine ⟨p, i, l, by rw [Int.zero_add]; rfl, hR.k s4, hl, _, rfl, ?_⟩
          refine ⟨D, _, rfl, .inl (SqL.of (same_new hu _ _ (sm2 _ _ hL2))), rfl, flat_nV _, ?_⟩
          refine ⟨_, u2, by rw [List.length_map, List.length_range]; exact small1000 (by omega), same_mut (sm2.trans (same_new hu)) hD2, ?_⟩
          rw [upd_same, if_neg (by decide), inV_nV, lr _ (by rw [ce, ea, Bool.false_or])]
      · obtain ⟨sm2, hL3⟩ := hP
        exact k _ D2 (s2.trans sm2) (none_back s2 hD2) hL3
end
end K52

namespace K52
open PySem L2 Wm TL Dv Rm Lo
section
variable {P : Program} {w : World} {K : PySem.W.Frag} {mg : Str → Option Value} {base : Heap}
theorem end_left (b : Bool) : decide (V.str (endS b) = V.str "left") = b := by cases b <;> decide +kernel
theorem nV_len (z : List Nat) : (nV z).length = z.length := by unfold nV; rw [List.length_map]
theorem nV_rg (n : Nat) : rgV 0 ((n : Nat) : Int) = nV (List.range n) := by
  unfold rgV nV
  rw [show (((n : Nat) : Int) - 0).toNat = n by omega]
  refine List.map_congr_left fun i _ => ?_
  rw [Int.zero_add]
theorem nV_rev (z : List Nat) : (nV z).reverse = nV z.reverse := by unfold nV; rw [List.map_reverse]
theorem nV_snoc (z : List Nat) (k : Nat) : nV z ++ [V.int ((k : Nat) : Int)] = nV (z ++ [k]) := by unfold nV; rw [List.map_append]; rfl
theorem sign_at {l : List Bool} {i : Nat} {b : Bool} (h : l[i]? = some b) : atI (rgS l).cps.toList ((i : Nat) : Int) = some (sg b) := by
  refine atI_nat ?_
  rw [rgS_cps, List.getElem?_map, h]
  rfl
theorem is_s (b : Bool) : decide (V.str ⟨#[sg b]⟩ = V.str "s") = b := by cases b <;> decide +kernel
/-- what has been passed when i places of the walk are behind -/
def doneW (b : Bool) (l : List Bool) (i : Nat) : List Nat := if b then List.range (c l i) else ((List.range (l.count true)).drop (c l (l.length - i))).reverse
def plc (b : Bool) (n i : Nat) : Nat := if b then i else n - 1 - i
theorem done_step {b x : Bool} {l : List Bool} {i : Nat} (hi : i < l.length) (h : l[plc b l.length i]? = some x) : doneW b l (i + 1) = doneW b l i ++ if x then [c l (plc b l.length i)] else [] := by
  cases b with
  | true =>
    have h : l[i]? = some x := h
    show List.range (c l (i + 1)) = List.range (c l i) ++ if x then [c l i] else []
    rw [c_succ h]
    cases x with
    | true => exact List.range_succ
    | false => simp
  | false =>
    have h : l[l.length - 1 - i]? = some x := h
    show ((List.range (l.count true)).drop (c l (l.length - (i + 1)))).reverse = ((List.range (l.count true)).drop (c l (l.length - i))).reverse ++ if x then [c l (l.length - 1 - i)] else []
    have e1 : l.length - (i + 1) = l.length - 1 - i := by omega
    have e2 : l.length - i = (l.length - 1 - i) + 1 := by omega
    rw [e1, e2, c_succ h]
    cases x with
    | false => simp
    | true =>
      have cl := c_le l (l.length - 1 - i + 1)
      rw [c_succ h] at cl
      have cl : c l (l.length - 1 - i) + 1 ≤ l.count true := cl
      rw [drop_back (show c l (l.length - 1 - i) < l.count true by omega), List.reverse_cons]
      rfl
theorem done_zero (b : Bool) (l : List Bool) : doneW b l 0 = [] := by
  cases b with
  | true => rfl
  | false =>
    show ((List.range (l.count true)).drop (c l (l.length - 0))).reverse = []
    rw [c_all (by omega), List.drop_of_length_le (by rw [List.length_range]; omega)]
    rfl
theorem done_len (b : Bool) (l : List Bool) (i : Nat) : (doneW b l i).length ≤ l.length := by
  have h1 := c_le l i
  have h2 : l.count true ≤ l.length := List.count_le_length
  cases b with
  | true => show (List.range (c l i)).length ≤ _; rw [List.length_range]; omega
  | false => show ((List.range (l.count true)).drop (c l (l.length - i))).reverse.length ≤ _; rw [List.length_reverse, List.length_drop, List.length_range]; omega
/-- the stretch asked at the i-th place -/
def str' (b : Bool) (n i : Nat) : Nat := if b then i else n - i
theorem walk_stop {b : Bool} {l : List Bool} {fs : List Ft} {i : Nat} (hi : i ≤ l.length) (a : ∀ j, j < i → opn l fs (str' b l.length j) = true) (e : i = l.length ∨ opn l fs (str' b l.length i) = false) : walkL b l fs = doneW b l i := by
  cases b with
  | true => exact left_at hi a e
  | false =>
    show (rightL l (opn l fs)).reverse = ((List.range (l.count true)).drop (c l (l.length - i))).reverse
    have e9 := right_at (l := l) (op := opn l fs) (i := l.length - i) (by omega) (fun k h1 h2 => by
      have := a (l.length - k) (by omega)
      have e2 : str' false l.length (l.length - k) = k := by show l.length - (l.length - k) = k; omega
      rw [e2] at this
      exact this) (by
      rcases e with e | e
      · exact .inl (by omega)
      · exact .inr e)
    rw [e9]
theorem ite_list {σ : L2.St} {c b : Bool} {i : Nat} {v : Addr} {xs : List V} {H1 : Hp} {Q : VK} (e : c = b) (va : σ[i]? = some (some (.ref v))) (hv : H1 v = some (.lst xs)) (q : ∀ a H2, Same H1 H2 → H2 a = some (.lst (if b then xs else xs.reverse)) → (a = v ∨ H1 a = none) → Q (.ref a) H2) :
    if c = true then tVar i σ H1 Q else tRevL K (tVar i) σ H1 Q := by
  subst e
  cases c with
  | true => exact iteT ⟨_, va, q _ _ (Same.refl _) hv (.inl rfl)⟩
  | false => exact iteF ⟨_, va, v, xs, rfl, SqL.of hv, fun p hp => q _ _ (same_new hp) upd_same (.inr hp)⟩
theorem ite_place {σ : L2.St} {c b : Bool} {i n j : Nat} {H1 : Hp} {Q : VK} (e : c = b) (va : σ[i]? = some (some (.int ((plc b n j : Nat) : Int)))) (hj : j < n) (q : Q (.int ((str' b n j : Nat) : Int)) H1) :
    if c = true then tVar i σ H1 Q else tOp (rI0 fun i j => .int (i + j)) (tVar i) (tC (V.int 1)) σ H1 Q := by
  subst e
  cases c with
  | true => exact iteT ⟨_, va, q⟩
  | false =>
    refine iteF ⟨_, va, _, _, rfl, rfl, ?_⟩
    have e : ((plc false n j : Nat) : Int) + 1 = ((str' false n j : Nat) : Int) := by
      show ((n - 1 - j : Nat) : Int) + 1 = ((n - j : Nat) : Int)
      omega
    (try dsimp only)
    rw [e]
    exact q
theorem plc_at {b : Bool} {n i : Nat} {x : V} (h : (if b then nV (List.range n) else (nV (List.range n)).reverse)[i]? = some x) : i < n ∧ x = .int ((plc b n i : Nat) : Int) := by
  have hi : i < n := by
    have := (List.getElem?_eq_some_iff.mp h).1
    cases b <;> simpa [nV] using this
  refine ⟨hi, ?_⟩
  cases b with
  | true =>
    have h : (nV (List.range n))[i]? = some x := h
    unfold nV at h
    rw [List.getElem?_map, List.getElem?_range hi] at h
    exact (Option.some.inj h).symm
  | false =>
    have h : (nV (List.range n)).reverse[i]? = some x := h
    unfold nV at h
    rw [List.getElem?_reverse (by rw [List.length_map, List.length_range]; exact hi), List.length_map, List.length_range, List.getElem?_map, List.getElem?_range (by omega)] at h
    exact (Option.some.inj h).symm
theorem plc_lt {b : Bool} {n i : Nat} (h : i < n) : plc b n i < n := by cases b <;> simp [plc] <;> omega
theorem str_le {b : Bool} {n i : Nat} (h : i < n) : str' b n i ≤ n := by cases b <;> simp [str'] <;> omega
theorem ok_passed_from (T : Txt K mg) : FnOk P w K mg base CX0 3 T.a_passed_from T.d_passed_from ["self", "end", "faults"] (sp_passed_from K T.C) := by
  refine T.F_passed_from.ok sc_passed_from (fun vs H Q E h => ?_) (fun cdv A outer s H vs Q E hr h => ?_)
  · obtain ⟨p, q, b, l, fs, rfl, _⟩ := h
    rfl
  · obtain ⟨p, q, b, l, fs, rfl, hR, hl, hF, fok, k⟩ := h
    obtain ⟨dx, fs0, hp, l1, l4⟩ := hR.txt
    refine ⟨_, (pss_cons (ps_set (i := 3) sc_passed_from.nd rfl (Or.inl rfl) (pe_meth (pv 0) T.clC T.m_closed_stretches (ok_closed_stretches T) (hr.mono (by decide)) T.b_closed_stretches .nil pass0 (pa_cons (pv 2) pa_nil)))
      (pss_cons (ps_set (i := 4) sc_passed_from.nd rfl (Or.inl rfl) (pe_lst pa_nil))
      (pss_cons (ps_set (i := 5) sc_passed_from.nd rfl (Or.inl rfl) (pe_listRg rfl (by rfl) T.z_list (prg_1 (by rfl) T.z_range (pe_callB call_len_str (by rfl) T.z_len PySem.boot_len (pa_cons (pe_fld (pv 0) rfl) pa_nil)))))
      (pss_cons (ps_for PassesOwn.never rfl (pi_list (pe_ifExp (pt_cmpR op_eq (pv 1) (pe_glob (v := V.str "left") rfl T.c_LEFT ⟨_, rfl⟩) (nomark _)) (pv 5) (pe_revL (pv 5)))) (pg_name (i := 6) sc_passed_from.nd rfl (Or.inl rfl))
        (pss_cons (ps_if (pt_val (pe_ix ix_list (pv 3) (pe_ifExp (pt_cmpR op_eq (pv 1) (pe_glob (v := V.str "left") rfl T.c_LEFT ⟨_, rfl⟩) (nomark _)) (pv 6) (pe_op op_add (pv 6) pe_int)) (fun _ _ => rfl)))
          (pss_one (ps_ret (pv 4)))
          pss_nil)
        (pss_one (ps_if (pt_cmpR op_eq (pe_ix ix_str (pe_fld (pv 0) rfl) (pv 6) (fun _ _ => rfl)) (pe_glob (v := V.str "s") rfl T.c_SEEKER ⟨_, rfl⟩) (nomark _))
          (pss_one (ps_expr (pe_bm PySem.F.plainAttrs_list PySem.F.slot_list_append PySem.F.type_list_append mt_append (pv 4) (pa_cons (pe_bm PySem.F.plainAttrs_str PySem.F.slot_str_count PySem.F.type_str_count mt_count (pe_slice sl_str (pe_fld (pv 0) rfl) po_none (po_some (pv 6))) (pa_cons (pe_glob (v := V.str "s") rfl T.c_SEEKER ⟨_, rfl⟩) pa_nil)) pa_nil))))
          pss_nil))))
      (pss_one (ps_ret (pv 4))))))), ?_⟩
    refine ⟨_, rfl, p, dx, fs0, rfl, hp, no_meth "closed_stretches" (by decide +kernel) (by decide +kernel) (by decide +kernel) l4, _, rfl, ?_⟩
    refine ⟨p, q, l, fs, rfl, hR, hl, hF, fok, fun H1 r sm1 hr0 hr1 => ?_⟩
    refine ⟨by decide, fun u hu => ?_⟩
    have s2 := sm1.trans (same_new (o := .lst []) hu)
    refine ⟨_, rfl, p, T.C, dx, fs0, _, rfl, s2 _ _ hp, T.clC, T.nT, l1, _, rfl, rg_small (by omega), _, rfl, RgOk.of_le (by omega) (by rw [rgS_len]; omega) (by omega) (by omega), fun v hv => ?_⟩
    rw [rgS_len, nV_rg]
    have ru : r ≠ u := ne_of_none hr1 hu
    have hrA := at_old (u := .lst []) hr1 hu
    have hrB := at_old (u := .lst (nV (List.range l.length))) hrA hv
    have huv : upd (upd H1 u (.lst [])) v (.lst (nV (List.range l.length))) u = some (.lst []) := at_old upd_same hv
    have s3 := s2.trans (same_new (o := .lst (nV (List.range l.length))) hv)
    have hu0 : H u = none := none_back sm1 hu
    have sz : ∀ b : Bool, (if b then nV (List.range l.length) else (nV (List.range l.length)).reverse).length = l.length := fun b => by cases b <;> simp [nV]
    refine ⟨_, rfl, rfl, _, rfl, ite_list (end_left b) rfl upd_same fun a H4 s4 hS4 av => ?_⟩
    have au : a ≠ u := by
      rcases av with av | av
      · rw [av]
        exact (ne_of_none (upd_same (H := H1) (a := u) (o := .lst [])) hv).symm
      · exact (ne_of_none huv av).symm
    have hr4 := s4 _ _ hrB
    have hu4 := s4 _ _ huv
    refine ⟨a, rfl, ⟨_, SqL.of hS4⟩, ?_⟩
    refine for_list (xs := if b then nV (List.range l.length) else (nV (List.range l.length)).reverse) (fun i σ H' => ∃ vp, σ = [some (.ref p), some (.str (endS b)), some (.ref q), some (.ref r), some (.ref u), some (.ref v), vp] ∧ Same H H' ∧ H' a = some (.lst (if b then nV (List.range l.length) else (nV (List.range l.length)).reverse)) ∧ a ≠ u ∧
        H' r = some (.lst ((List.range (l.length + 1)).map fun k => V.bl (!opn l fs k))) ∧ H' u = some (.lst (nV (doneW b l i))) ∧ ∀ j, j < i → opn l fs (str' b l.length j) = true)
      ⟨none, rfl, s3.trans s4, hS4, au, hr4, by rw [done_zero]; exact hu4, fun j hj => absurd hj (Nat.not_lt_zero _)⟩ (fun i σ H' _ h => by obtain ⟨_, _, _, h, _⟩ := h; exact SqL.of h) (fun i x σ H' hx hP => ?_) (fun σ H' hP => ?_)
    · obtain ⟨vp, rfl, sm, hS', au, hr', hu', op⟩ := hP
      have hi : i < l.length := (plc_at hx).1
      have ex := (plc_at hx).2
      subst ex
      have dl := done_len b l i
      have pl := plc_lt (b := b) hi
      have sl := str_le (b := b) hi
      have cat : ((List.range (l.length + 1)).map fun k => V.bl (!opn l fs k))[str' b l.length i]? = some (V.bl (!opn l fs (str' b l.length i))) := by
        rw [List.getElem?_map, List.getElem?_range (by omega)]
        rfl
      obtain ⟨x, hx2⟩ : ∃ x, l[plc b l.length i]? = some x := ⟨_, List.getElem?_eq_getElem pl⟩
      have ds := done_step hi hx2
      refine ⟨_, rfl, _, rfl, rfl, _, rfl, ite_place (n := l.length) (j := i) (end_left b) rfl hi ?_⟩
      refine ⟨r, _, _, _, rfl, rfl, SqL.of hr', atI_nat cat, ?_⟩
      cases eo : opn l fs (str' b l.length i) with
      | false =>
        refine ⟨_, rfl, iteT ?_⟩
        refine ⟨_, rfl, k _ u sm hu0 ?_⟩
        rw [walk_stop (Nat.le_of_lt hi) op (.inr eo)]
        exact hu'
      | true =>
        refine ⟨_, rfl, iteF ?_⟩
        have op2 : ∀ j, j < i + 1 → opn l fs (str' b l.length j) = true := fun j hj => by
          by_cases c : j = i
          · rw [c]
            exact eo
          · exact op j (by omega)
        refine ⟨_, rfl, p, T.C, dx, fs0, _, rfl, sm _ _ hp, T.clC, T.nT, l1, _, rfl, _, _, _, rfl, rfl, rg_small (by omega), sign_at hx2, rfl, _, rfl, ?_⟩
        rw [is_s]
        cases x with
        | false =>
          refine iteF ⟨_, rfl, sm, hS', au, hr', ?_, op2⟩
          rw [ds]
          simpa using hu'
        | true =>
          refine iteT ⟨_, rfl, .inl ⟨rfl, _, SqL.of hu'⟩, ?_⟩
          refine ⟨_, rfl, p, T.C, dx, fs0, _, rfl, sm _ _ hp, T.clC, T.nT, l1, _, rfl, _, rfl, _, rfl, rg_small (by omega), ?_⟩
          rw [rgS_take]
          refine ⟨rfl, _, _, rfl, rfl, ?_⟩
          rw [count_s]
          refine ⟨_, _, _, rfl, rfl, hu', by rw [nV_len]; exact small1000 (by omega), ?_⟩
          refine ⟨_, rfl, same_mut sm hu0, by rw [upd_ne au]; exact hS', au, ?_, ?_, op2⟩
          · rw [upd_ne ru]
            exact hr'
          · rw [upd_same, ds]
            show some (HO.lst (nV (doneW b l i) ++ [V.int ((c l (plc b l.length i) : Nat) : Int)])) = _
            rw [nV_snoc]
            rfl
    · obtain ⟨vp, rfl, sm, hS', au, hr', hu', op⟩ := hP
      rw [sz] at hu' op
      refine ⟨_, rfl, k _ u sm hu0 ?_⟩
      rw [walk_stop (Nat.le_refl _) op (.inl rfl)]
      exact hu'
end
end K52

namespace K52
open PySem L2 Wm TL Dv Rm Lo
section
variable {P : Program} {w : World} {K : PySem.W.Frag} {mg : Str → Option Value} {base : Heap}
theorem nV_int (z : List Nat) : nV z = (z.map fun n => ((n : Nat) : Int)).map V.int := by unfold nV; rw [List.map_map]; rfl
theorem up_eq : ∀ {a b : List Int}, a.Pairwise (· < ·) → b.Pairwise (· < ·) → (∀ k, k ∈ a ↔ k ∈ b) → a = b
  | [], [], _, _, _ => rfl
  | [], y :: b, _, _, h => absurd ((h y).mpr List.mem_cons_self) (by simp)
  | x :: a, [], _, _, h => absurd ((h x).mp List.mem_cons_self) (by simp)
  | x :: a, y :: b, ha, hb, h => by
    rw [List.pairwise_cons] at ha hb
    have e : x = y := by
      rcases List.mem_cons.mp ((h x).mp List.mem_cons_self) with z | z
      · exact z
      · rcases List.mem_cons.mp ((h y).mpr List.mem_cons_self) with v | v
        · exact v.symm
        · have := hb.1 x z
          have := ha.1 y v
          omega
    subst e
    congr 1
    refine up_eq ha.2 hb.2 fun k => ⟨fun m => ?_, fun m => ?_⟩
    · rcases List.mem_cons.mp ((h k).mp (List.mem_cons_of_mem _ m)) with z | z
      · have := ha.1 k m
        omega
      · exact z
    · rcases List.mem_cons.mp ((h k).mpr (List.mem_cons_of_mem _ m)) with z | z
      · have := hb.1 k m
        omega
      · exact z
theorem walk_len (b : Bool) (l : List Bool) (fs : List Ft) : (walkL b l fs).length ≤ l.length := by
  have h2 : l.count true ≤ l.length := List.count_le_length
  cases b with
  | true => exact Nat.le_trans (List.length_filter_le _ _) (by rw [List.length_range]; exact h2)
  | false => show (rightL l _).reverse.length ≤ _; rw [List.length_reverse]; exact Nat.le_trans (List.length_filter_le _ _) (by rw [List.length_range]; exact h2)
theorem heard_eq {l : List Bool} {fs : List Ft} {ns : List Int} (up : ns.Pairwise (· < ·)) (m : ∀ k : Int, k ∈ ns ↔ k ∈ (walkL true l fs ++ walkL false l fs).map fun n => ((n : Nat) : Int)) : ns.map V.int = nV (heardL l (opn l fs)) := by
  rw [nV_int]
  congr 1
  refine up_eq up ?_ fun k => (m k).trans ?_
  · rw [List.pairwise_map]
    exact (heard_up l (opn l fs)).imp fun h => by omega
  · rw [List.mem_map, List.mem_map]
    constructor
    · rintro ⟨j, hj, rfl⟩
      refine ⟨j, heard_mem.mpr ?_, rfl⟩
      rcases List.mem_append.mp hj with z | z
      · exact .inl z
      · exact .inr (List.mem_reverse.mp z)
    · rintro ⟨j, hj, rfl⟩
      refine ⟨j, List.mem_append.mpr ?_, rfl⟩
      rcases heard_mem.mp hj with z | z
      · exact .inl z
      · exact .inr (List.mem_reverse.mpr z)
theorem ok_reached (T : Txt K mg) : FnOk P w K mg base (L2.CX P w) 5 T.a_reached T.d_reached ["self", "faults"] (sp_reached K T.C T.CF) := by
  refine T.F_reached.okX sc_reached (fun vs H Q E h => ?_) (fun cdv A outer s H vs Q E hr h => ?_)
  · obtain ⟨p, q, l, rfl, _⟩ := h
    rfl
  · obtain ⟨p, q, l, rfl, hR, hl, h⟩ := h
    obtain ⟨dx, fs0, hp, l1, l4⟩ := hR.txt
    refine ⟨_, (pss_cons (ps_expr (MS.pe_methS (pv 0) T.clC T.m_check_faults (ok_check_faults T) (hr.mono (by decide)) T.b_check_faults (fun σ => passAt (takes_of rfl rfl rfl rfl) σ) (by exact (pa_cons (pv 1) pa_nil))))
      (pss_one (ps_ret (pe_callTy call_tuple_of (by rfl) T.z_tuple (by decide +kernel) (pa_cons (pe_callB (Sa.cr_sortedSetA (by rfl)) (by rfl) T.z_sorted (by decide +kernel) (pa_cons (pe_callTy (Si.call_set (by rfl)) (by rfl) T.z_set (by decide +kernel) (pa_cons (pe_op op_cat (pe_meth (pv 0) T.clC T.m_passed_from (ok_passed_from T) (hr.mono (by decide)) T.b_passed_from .nil pass0 (pa_cons (pe_glob (v := V.str "left") rfl T.c_LEFT ⟨_, rfl⟩) (pa_cons (pv 1) pa_nil))) (pe_meth (pv 0) T.clC T.m_passed_from (ok_passed_from T) (hr.mono (by decide)) T.b_passed_from .nil pass0 (pa_cons (pe_glob (v := V.str "right") rfl T.c_RIGHT ⟨_, rfl⟩) (pa_cons (pv 1) pa_nil)))) pa_nil)) pa_nil)) pa_nil))))), ?_⟩
    rcases h with ⟨fs, hF, fok, k⟩ | ⟨x, hM, er⟩
    · refine ⟨_, rfl, p, dx, fs0, rfl, hp, no_meth "check_faults" (by decide +kernel) (by decide +kernel) (by decide +kernel) l4, _, rfl, ?_⟩
      refine ⟨p, q, l, rfl, hR, hl, .inl ⟨fs, hF, fok, fun H1 s1 => ?_⟩⟩
      refine ⟨_, rfl, p, dx, fs0, rfl, s1 _ _ hp, no_meth "passed_from" (by decide +kernel) (by decide +kernel) (by decide +kernel) l4, _, rfl, ?_⟩
      refine ⟨p, q, true, l, fs, rfl, hR.k s1, hl, hF.k s1, fok, fun H2 r2 s2 n2 h2 => ?_⟩
      have s12 := s1.trans s2
      refine ⟨_, rfl, p, dx, fs0, rfl, s12 _ _ hp, no_meth "passed_from" (by decide +kernel) (by decide +kernel) (by decide +kernel) l4, _, rfl, ?_⟩
      refine ⟨p, q, false, l, fs, rfl, hR.k s12, hl, hF.k s12, fok, fun H3 r3 s3 n3 h3 => ?_⟩
      have w1 := walk_len true l fs
      have w2 := walk_len false l fs
      refine ⟨r2, r3, _, _, rfl, rfl, s3 _ _ h2, h3, by rw [nV_len, nV_len]; exact small_len (by omega), fun u hu => ?_⟩
      have e9 : nV (walkL true l fs) ++ nV (walkL false l fs) = ((walkL true l fs ++ walkL false l fs).map fun n => ((n : Nat) : Int)).map V.int := by rw [← nV_int]; unfold nV; rw [List.map_append]
      rw [e9]
      refine ⟨u, _, rfl, .inl (SqL.of upd_same), by rw [List.length_map, List.length_append]; omega, fun S cc hc hS => ?_⟩
      rw [List.length_map, List.length_append] at hc
      refine ⟨S, _, cc, rfl, upd_same, by omega, fun ns v up mm ln hv => ?_⟩
      refine ⟨v, _, rfl, .inl ⟨SqL.of upd_same, fun r hr1 => ?_⟩⟩
      have sA := (((s12.trans s3).trans (same_new (o := .lst (((walkL true l fs ++ walkL false l fs).map fun n => ((n : Nat) : Int)).map V.int)) hu)).trans (same_new hS)).trans (same_new (o := .lst (ns.map V.int)) hv)
      refine k _ r (sA.trans (same_new hr1)) (none_back sA hr1) ?_
      rw [upd_same, heard_eq up fun k => (mm k).trans decide_eq_true_iff]
    · refine ⟨_, rfl, p, dx, fs0, rfl, hp, no_meth "check_faults" (by decide +kernel) (by decide +kernel) (by decide +kernel) l4, _, rfl, ?_⟩
      exact ⟨p, q, l, rfl, hR, hl, .inr ⟨x, hM, fun H' d s' e => er H' d s' e⟩⟩
theorem end_in (b : Bool) : inV (.str (endS b)) [V.str "left", V.str "right"] = true := by cases b <;> decide +kernel
end
end K52

namespace K52
open PySem L2 Wm TL Dv Rm Lo
section
variable {P : Program} {w : World} {K : PySem.W.Frag} {mg : Str → Option Value} {base : Heap}
theorem sum_cast : ∀ ds : List Nat, (ds.map fun (d : Nat) => (d : Int)).sum = ((ds.sum : Nat) : Int)
  | [] => rfl
  | d :: ds => by
    rw [List.map_cons, List.sum_cons, List.sum_cons, sum_cast ds]
    omega
def letters (t : Str) : List Bool := (tl t).map fun c => decide (c ∈ ("123456789" : Str).cps.toList)
theorem letters_all {t : Str} : (letters t).all id = true ↔ ∀ c ∈ tl t, c ∈ ("123456789" : Str).cps.toList := by
  unfold letters
  rw [List.all_map, List.all_eq_true]
  constructor
  · intro h c m
    exact of_decide_eq_true (h c m)
  · intro h c m
    exact decide_eq_true (h c m)
theorem ok_is_number (T : Txt K mg) : FnOk P w K mg base CX0 1 T.a_is_number T.d_is_number ["thing"] (sp_is_number K) := by
  refine T.F_is_number.ok sc_is_number (fun vs H Q E h => ?_) (fun cdv A outer s H vs Q E hr h => ?_)
  · obtain ⟨x, rfl, _⟩ := h
    rfl
  · obtain ⟨x, rfl, ⟨t, rfl, hz, k⟩ | ⟨no, k⟩⟩ := h
    case inr =>
      obtain ⟨T0, ty, kt⟩ := no
      refine ⟨_, (pss_cons (ps_if (PW.pt (pw_or (pt_not (pt_val (pe_callB call_isi (by rfl) T.z_isinstance (by decide +kernel) (pa_cons (pv 0) (pa_cons (pe_bltn (v := V.ty "str") (by rfl) T.z_str (by decide +kernel) rfl) pa_nil))))) (pw_or1 (pt_not (pt_chain op_le op_le pe_int (pe_callB call_len_str (by rfl) T.z_len PySem.boot_len (pa_cons (pv 0) pa_nil)) (pe_glob (v := V.int 4) rfl T.c_MOST_DIGITS ⟨_, rfl⟩))))))
        (pss_one (ps_ret pe_bl))
        pss_nil)
      (pss_cons (ps_if (pt_not (pt_val (pe_callB (cr_all rfl) (by rfl) T.z_all (by decide +kernel) (pa_cons (pe_lc (own := [("letter", 1)]) (g := gName 1) (tt := tYes) rfl sc_is_number.nd (pi_str (pv 0)) (blkOk_by (own := [("letter", 1)]) (N := nm_is_number) (sc := (defScope s_is_number)) (by decide +kernel)) (fun _ _ _ _ _ => pg_name (i := 1) sc_is_number.nd rfl (Or.inl rfl)) (fun _ _ _ _ _ => pts_nil) (fun _ _ _ _ _ => (pe_cmpR op_in_sign (pv 1) (pe_glob (v := V.str "123456789") rfl T.c_DIGITS ⟨_, rfl⟩) rfl))) pa_nil))))
        (pss_one (ps_ret pe_bl))
        pss_nil)
      (pss_one (ps_ret (pe_cmpR op_le (pe_callB (cr_sum rfl) (by rfl) T.z_sum (by decide +kernel) (pa_cons (pe_lc (own := [("letter", 1)]) (g := gName 1) (tt := tYes) rfl sc_is_number.nd (pi_str (pv 0)) (blkOk_by (own := [("letter", 1)]) (N := nm_is_number) (sc := (defScope s_is_number)) (by decide +kernel)) (fun _ _ _ _ _ => pg_name (i := 1) sc_is_number.nd rfl (Or.inl rfl)) (fun _ _ _ _ _ => pts_nil) (fun _ _ _ _ _ => (pe_callTy call_int_str (by rfl) T.z_int (by decide +kernel) (pa_cons (pv 1) pa_nil)))) pa_nil)) (pe_glob (v := V.int 24) rfl T.c_GREATEST_SUM ⟨_, rfl⟩) (nomark _)))))), ?_⟩
      exact ⟨_, rfl, _, _, _, _, false, rfl, .ty "str", ty _ (Same.refl _), kt, false, rfl, iteT (iteT k)⟩
    have hz : t.length ≤ 100000 := Nat.le_trans hz (by decide)
    refine ⟨_, (pss_cons (ps_if (PW.pt (pw_or (pt_not (pt_val (pe_callB call_isi (by rfl) T.z_isinstance (by decide +kernel) (pa_cons (pv 0) (pa_cons (pe_bltn (v := V.ty "str") (by rfl) T.z_str (by decide +kernel) rfl) pa_nil))))) (pw_or1 (pt_not (pt_chain op_le op_le pe_int (pe_callB call_len_str (by rfl) T.z_len PySem.boot_len (pa_cons (pv 0) pa_nil)) (pe_glob (v := V.int 4) rfl T.c_MOST_DIGITS ⟨_, rfl⟩))))))
        (pss_one (ps_ret pe_bl))
        pss_nil)
      (pss_cons (ps_if (pt_not (pt_val (pe_callB (cr_all rfl) (by rfl) T.z_all (by decide +kernel) (pa_cons (pe_lc (own := [("letter", 1)]) (g := gName 1) (tt := tYes) rfl sc_is_number.nd (pi_str (pv 0)) (blkOk_by (own := [("letter", 1)]) (N := nm_is_number) (sc := (defScope s_is_number)) (by decide +kernel)) (fun _ _ _ _ _ => pg_name (i := 1) sc_is_number.nd rfl (Or.inl rfl)) (fun _ _ _ _ _ => pts_nil) (fun _ _ _ _ _ => (pe_cmpR op_in_sign (pv 1) (pe_glob (v := V.str "123456789") rfl T.c_DIGITS ⟨_, rfl⟩) rfl))) pa_nil))))
        (pss_one (ps_ret pe_bl))
        pss_nil)
      (pss_one (ps_ret (pe_cmpR op_le (pe_callB (cr_sum rfl) (by rfl) T.z_sum (by decide +kernel) (pa_cons (pe_lc (own := [("letter", 1)]) (g := gName 1) (tt := tYes) rfl sc_is_number.nd (pi_str (pv 0)) (blkOk_by (own := [("letter", 1)]) (N := nm_is_number) (sc := (defScope s_is_number)) (by decide +kernel)) (fun _ _ _ _ _ => pg_name (i := 1) sc_is_number.nd rfl (Or.inl rfl)) (fun _ _ _ _ _ => pts_nil) (fun _ _ _ _ _ => (pe_callTy call_int_str (by rfl) T.z_int (by decide +kernel) (pa_cons (pv 1) pa_nil)))) pa_nil)) (pe_glob (v := V.int 24) rfl T.c_GREATEST_SUM ⟨_, rfl⟩) (nomark _)))))), ?_⟩
    refine ⟨_, rfl, _, _, _, _, true, rfl, .ty "str", .base (.str _), kit_ty (by decide +kernel), true, rfl, iteF ?_⟩
    have hl : t.length = (tl t).length := len_tl t
    have numlen : IsNum t → 1 ≤ t.length ∧ t.length ≤ 4 := fun ⟨ds, N, e⟩ => by
      rw [e, numS_len]
      exact ⟨N.pos, N.len⟩
    refine ⟨_, rfl, _, rfl, small_len hz, _, _, rfl, rfl, _, rfl, ?_⟩
    refine ite2 (fun c1 => ?_) (fun c1 => ?_)
    case refine_2 =>
      have c1' : ¬ (1 : Int) ≤ (t.length : Nat) := fun z => c1 (decide_eq_true z)
      refine ⟨false, rfl, iteT ?_⟩
      exact k _ _ (Same.refl _) ⟨fun z => (by cases z), fun z => absurd (numlen z).1 (by omega)⟩
    have c1' : (1 : Int) ≤ (t.length : Nat) := of_decide_eq_true c1
    refine ⟨_, _, rfl, rfl, _, rfl, ?_⟩
    by_cases c2 : ((t.length : Nat) : Int) ≤ 4
    case neg =>
      rw [decide_eq_false c2]
      refine iteT ?_
      exact k _ _ (Same.refl _) ⟨fun z => (by cases z), fun z => absurd (numlen z).2 (by omega)⟩
    rw [decide_eq_true c2]
    refine iteF ?_
    refine ⟨_, rfl, _, rfl, fun D hD => ?_⟩
    have hsz : t.cps.size = (tl t).length := hl
    refine lc_it walk_str (fun i H' => Same H H' ∧ H' D = some (.lst (((letters t).take i).map V.bl))) ⟨same_new hD, upd_same⟩ (fun _ _ _ _ => trivial) (fun i x H1 H' hi hP hY => ?_) (fun H1 hP => ?_)
    · obtain ⟨sm, hL⟩ := hP
      obtain ⟨rfl, c, hc, rfl⟩ := hY
      have hc2 : (letters t)[i]? = some (decide (c ∈ ("123456789" : Str).cps.toList)) := by
        unfold letters
        rw [List.getElem?_map, cps_at hc]
        rfl
      refine ⟨rfl, yesT ?_⟩
      refine ⟨_, rfl, _, _, rfl, rfl, _, hL, by rw [List.length_map, List.length_take]; exact small1000 (by omega), ?_⟩
      refine ⟨same_mut sm hD, ?_⟩
      rw [upd_same, take_succ_map _ hc2]
    · obtain ⟨sm, hL⟩ := hP
      have ell : (letters t).length = t.cps.size := by unfold letters; rw [List.length_map, hsz]
      rw [← ell, List.take_length] at hL
      refine ⟨D, letters t, rfl, SqL.of hL, _, rfl, ?_⟩
      by_cases c3 : (letters t).all id = true
      case neg =>
        rw [Bool.not_eq_true] at c3
        rw [c3]
        refine iteT ?_
        refine k _ _ sm ⟨fun z => (by cases z), fun ⟨ds, N, e⟩ => ?_⟩
        have q := letters_all.mpr (by rw [e]; exact num_codes N.dig : ∀ c ∈ tl t, c ∈ ("123456789" : Str).cps.toList)
        rw [c3] at q
        cases q
      rw [c3]
      refine iteF ?_
      obtain ⟨ds, dig, et⟩ := dig_text t (letters_all.mp c3)
      subst et
      rw [numS_len] at c1' c2
      refine ⟨_, rfl, _, rfl, fun D2 hD2 => ?_⟩
      refine lc_it walk_str (fun i H' => Same H H' ∧ H' D2 = some (.lst ((ds.take i).map fun (d : Nat) => V.int (d : Int)))) ⟨sm.trans (same_new hD2), upd_same⟩ (fun _ _ _ _ => trivial) (fun i x H2 H' hi hP hY => ?_) (fun H2 hP => ?_)
      · obtain ⟨sm2, hl2⟩ := hP
        obtain ⟨rfl, c, hc, rfl⟩ := hY
        rw [numS_size] at hi
        rw [numS_at ds i hi] at hc
        have hc' := (Option.some.inj hc).symm
        subst hc'
        refine ⟨rfl, yesT ?_⟩
        refine ⟨_, rfl, _, _, rfl, dig_int (dig _ (List.getElem_mem hi)), (by show 1 ≤ 640; decide), _, hl2, by rw [List.length_map, List.length_take]; exact small1000 (by omega), ?_⟩
        refine ⟨same_mut sm2 (sm.free hD2), ?_⟩
        rw [upd_same, take_succ_map _ (List.getElem?_eq_getElem hi)]
      · obtain ⟨sm2, hl2⟩ := hP
        rw [numS_size, List.take_length] at hl2
        refine ⟨D2, ds.map fun (d : Nat) => (d : Int), rfl, SqL.of (by rw [hl2, List.map_map]; rfl), _, _, rfl, rfl, ?_⟩
        rw [sum_cast]
        refine k _ _ sm2 ?_
        rw [isnum_dig]
        constructor
        · intro z
          have z' : ((ds.sum : Nat) : Int) ≤ 24 := of_decide_eq_true z
          exact ⟨by omega, by omega, dig, by omega⟩
        · intro N
          exact decide_eq_true (show ((ds.sum : Nat) : Int) ≤ 24 by have := N.sum; omega)
theorem putF_len (f : Str) (v : V) : ∀ fs : List (Str × V), (putF f v fs).length ≤ fs.length + 1
  | [] => by simp [putF]
  | (g, x) :: r => by
    have ih := putF_len f v r
    unfold putF
    split
    · simp
    · simp only [List.length_cons]
      omega
/-- what stands at another place than p -/
theorem Off.trans {p : Addr} {H H1 H2 : Hp} (a : Off p H H1) (b : Off p H1 H2) : Off p H H2 := fun q o n h => b q o n (a q o n h)
theorem Off.of {p : Addr} {H H' : Hp} (s : Same H H') : Off p H H' := fun q o _ h => s q o h
theorem Off.set {p : Addr} {H : Hp} {o : HO} : Off p H (upd H p o) := fun q u n h => by
  rw [upd_ne n]
  exact h
theorem kt_ins {H : Hp} {p C dx : Addr} {fs : List (Str × V)} {o : HO} (h : H p = some (.ins C dx fs)) : Kt K H (upd H p o) := Kt.set h (fun _ q => by cases q) (fun _ _ q => by cases q)
end
end K52

namespace K52
open PySem L2 Wm TL Dv Rm Lo
section
variable {P : Program} {w : World} {K : PySem.W.Frag} {mg : Str → Option Value} {base : Heap}
theorem sp_snoc (b : Bool) : ∀ a : List Bool, sp (a ++ [b]) = sp a ++ if b then [a.length] else []
  | [] => by cases b <;> rfl
  | true :: a => by
    show 0 :: (sp (a ++ [b])).map (· + 1) = (0 :: (sp a).map (· + 1)) ++ _
    rw [sp_snoc b a]
    cases b <;> simp
  | false :: a => by
    show (sp (a ++ [b])).map (· + 1) = (sp a).map (· + 1) ++ _
    rw [sp_snoc b a]
    cases b <;> simp
theorem is_o (b : Bool) : decide (V.str ⟨#[sg b]⟩ = V.str "o") = !b := by cases b <;> decide +kernel
theorem rg_size (l : List Bool) : (rgS l).cps.size = l.length := rgS_len l
theorem sg_at {l : List Bool} {i cc : Nat} (h : (rgS l).cps[i]? = some cc) : ∃ b, l[i]? = some b ∧ cc = sg b := by
  have h2 : (l.map sg)[i]? = some cc := cps_at h
  rw [List.getElem?_map] at h2
  obtain ⟨b, e, rfl⟩ := Option.map_eq_some_iff.mp h2
  exact ⟨b, e, rfl⟩
theorem sp_small (l : List Bool) : (sp l).length ≤ l.length := by rw [Rm.sp_len]; exact List.count_le_length
theorem zone_data (f : Ft) (k : Nat) : PyData.eqv (ftD f) (.tuple [.str "cut", .int ((k : Nat) : Int)]) = (f.1 && decide (f.2 = k)) := by
  have e := eqv_ft f k
  rw [Int.zero_add] at e
  exact e
theorem ft_shaped (f : Ft) : SeqAt.shaped (ftD f) = true := by
  have h : Fine 1 (ftD f) := fine_tup (n := 0) fun d m => by
    rcases List.mem_cons.mp m with rfl | m
    · exact fine_str (by cases f.1 <;> decide +kernel)
    · rw [List.mem_singleton.mp m]
      exact fine_int _
  exact h.shaped (by decide)
theorem opn_snoc {l : List Bool} {fs : List Ft} {i k : Nat} {f : Ft} (h : fs[i]? = some f) : opn l (fs.take (i + 1)) k = (opn l (fs.take i) k && if f.1 then !decide (f.2 = k) else !decide (zone l f.2 = zone l k)) := by
  unfold opn
  rw [List.take_add_one, h, List.all_append]
  simp
theorem opn_stop {l : List Bool} {fs : List Ft} {i k : Nat} {f : Ft} (h : fs[i]? = some f) (e : (if f.1 then !decide (f.2 = k) else !decide (zone l f.2 = zone l k)) = false) : opn l fs k = false := by
  unfold opn
  refine Bool.eq_false_iff.mpr fun z => ?_
  have := List.all_eq_true.mp z f (List.mem_of_getElem? h)
  rw [e] at this
  cases this
theorem ok_zone (T : Txt K mg) : FnOk P w K mg base CX0 1 T.a_zone T.d_zone ["_law_text_here", "_law_stretch"] (sp_zone K) := by
  refine T.F_zone.ok sc_zone (fun vs H Q E h => ?_) (fun cdv A outer s H vs Q E hr h => ?_)
  · obtain ⟨k, l, rfl, _⟩ := h
    rfl
  · obtain ⟨k, l, rfl, hl, kk⟩ := h
    refine ⟨_, (pss_one (ps_ret (pe_callB call_len_seq (by rfl) T.z_len PySem.boot_len (pa_cons (pe_lc (own := [("_law_sign", 2)]) (g := gName 2) rfl sc_zone.nd (pi_str (pe_slice sl_str (pv 0) po_none (po_some (pv 1)))) (blkOk_by (own := [("_law_sign", 2)]) (N := nm_zone) (sc := (defScope s_zone)) (by decide +kernel)) (fun _ _ _ _ _ => pg_name (i := 2) sc_zone.nd rfl (Or.inl rfl)) (fun _ _ _ _ _ => (pts_one (pt_cmpR op_eq (pv 2) pe_str (nomark _)))) (fun _ _ _ _ _ => (pv 2))) pa_nil)))), ?_⟩
    refine ⟨_, rfl, _, rfl, _, rfl, _, rfl, rg_small (by omega), ?_⟩
    rw [rgS_take]
    refine ⟨_, rfl, fun D hD => ?_⟩
    refine lc_it walk_str (fun i H' => Same H H' ∧ ∃ ys, H' D = some (.lst ys) ∧ ys.length = ((l.take k).take i).count false) ⟨same_new hD, [], upd_same, rfl⟩ (fun _ _ _ _ => trivial) (fun i x H1 H2 hi hP hY => ?_) (fun H1 hP => ?_)
    · obtain ⟨sm, ys, hy, ly⟩ := hP
      obtain ⟨rfl, cc, hc, rfl⟩ := hY
      obtain ⟨b, hb, rfl⟩ := sg_at hc
      have lc2 : ((l.take k).take i).count false ≤ 10 := Nat.le_trans List.count_le_length (by rw [List.length_take, List.length_take]; omega)
      refine ⟨rfl, _, rfl, rfl, _, rfl, ?_⟩
      rw [is_o]
      cases b with
      | false => exact iteT ⟨_, rfl, ys, hy, small1000 (by omega), same_mut sm hD, _, upd_same, by rw [List.take_add_one, hb, List.count_append, List.length_append, ly]; rfl⟩
      | true => exact iteF ⟨sm, ys, hy, by rw [List.take_add_one, hb, List.count_append, ly]; simp⟩
    · obtain ⟨sm, ys, hy, ly⟩ := hP
      rw [rg_size, List.take_length] at ly
      refine ⟨D, ys, rfl, .inl (SqL.of hy), ?_⟩
      rw [ly]
      exact kk _ sm
theorem ok_spots (T : Txt K mg) : FnOk P w K mg base CX0 1 T.a_spots T.d_spots ["_law_text_here"] (sp_spots K) := by
  refine T.F_spots.ok sc_spots (fun vs H Q E h => ?_) (fun cdv A outer s H vs Q E hr h => ?_)
  · obtain ⟨l, rfl, _⟩ := h
    rfl
  · obtain ⟨l, rfl, hl, kk⟩ := h
    refine ⟨_, (pss_one (ps_ret (pe_lc (own := [("_law_at", 1)]) (g := gName 1) rfl sc_spots.nd (pi_range1 (by rfl) T.z_range (pa_cons (pe_callB call_len_str (by rfl) T.z_len PySem.boot_len (pa_cons (pv 0) pa_nil)) pa_nil)) (blkOk_by (own := [("_law_at", 1)]) (N := nm_spots) (sc := (defScope s_spots)) (by decide +kernel)) (fun _ _ _ _ _ => pg_name (i := 1) sc_spots.nd rfl (Or.inl rfl)) (fun _ _ _ _ _ => (pts_one (pt_cmpR op_eq (pe_ix ix_str (pv 0) (pv 1) (fun _ _ => rfl)) pe_str (nomark _)))) (fun _ _ _ _ _ => (pv 1))))), ?_⟩
    refine ⟨_, rfl, _, rfl, rg_small (by omega), _, rfl, by rw [rgS_len]; omega, by rw [rgS_len]; omega, fun D hD => ?_⟩
    rw [rgS_len, Int.toNat_natCast]
    refine lc_it walk_range (fun i H' => Same H H' ∧ H' D = some (.lst (nV (sp (l.take i))))) ⟨same_new hD, upd_same⟩ (fun _ _ _ _ => trivial) (fun i x H1 H2 hi hP hY => ?_) (fun H1 hP => ?_)
    · obtain ⟨sm, hL⟩ := hP
      obtain ⟨rfl, rfl⟩ := hY
      obtain ⟨b, hb⟩ : ∃ b, l[i]? = some b := ⟨_, List.getElem?_eq_getElem hi⟩
      have e9 : sp (l.take (i + 1)) = sp (l.take i) ++ if b then [i] else [] := by
        rw [List.take_add_one, hb]
        show sp (l.take i ++ [b]) = _
        rw [sp_snoc, List.length_take, Nat.min_eq_left (Nat.le_of_lt hi)]
      have ls := sp_small (l.take i)
      rw [List.length_take] at ls
      refine ⟨rfl, _, rfl, _, rfl, _, _, _, rfl, (show V.int (0 + ((i : Nat) : Int)) = V.int ((i : Nat) : Int) by rw [Int.zero_add]), rg_small (by omega), sign_at hb, rfl, _, rfl, ?_⟩
      (try dsimp only)
      rw [is_s, Int.zero_add]
      cases b with
      | true =>
        refine iteT ⟨_, rfl, _, hL, by rw [nV_len]; exact small1000 (by omega), same_mut sm hD, ?_⟩
        rw [upd_same, e9, nV_snoc]
        rfl
      | false =>
        refine iteF ⟨sm, ?_⟩
        rw [e9, hL]
        simp
    · obtain ⟨sm, hL⟩ := hP
      rw [List.take_length] at hL
      exact kk _ D sm hD hL
theorem ok_open_at (T : Txt K mg) : FnOk P w K mg base CX0 2 T.a_open_at T.d_open_at ["_law_text_here", "_law_faults_here", "_law_stretch"] (sp_open_at K) := by
  refine T.F_open_at.ok sc_open_at (fun vs H Q E h => ?_) (fun cdv A outer s H vs Q E hr h => ?_)
  · obtain ⟨k, q, l, fs, rfl, _⟩ := h
    rfl
  · obtain ⟨k, q, l, fs, rfl, hl, ⟨tt, xs, hS, hds⟩, ⟨f1, f2⟩, kk⟩ := h
    have el := hds.len
    rw [List.length_map] at el
    refine ⟨_, (pss_cons (ps_for PassesOwn.never rfl (Kd.pi_seq (pv 1)) (pg_name (i := 3) sc_open_at.nd rfl (Or.inl rfl))
        (pss_cons (ps_if (pt_cmpR (op_eqD hr.units) (pv 3) (pe_tup (pa_cons pe_str (pa_cons (pv 2) pa_nil))) (nomark _))
          (pss_one (ps_ret pe_bl))
          pss_nil)
        (pss_one (ps_if (PW.pt (pw_and (pt_cmpR op_eq (pe_ix ix_tup (pv 3) pe_int (fun _ _ => rfl)) pe_str (nomark _)) (pw_and1 (pt_cmpR op_eq (pe_call (ok_zone T) (hr.mono (by decide)) (by rfl) T.g_zone T.F_zone.kp T.b_zone .nil pass0 (pa_cons (pv 0) (pa_cons (pe_ix ix_tup (pv 3) pe_int (fun _ _ => rfl)) pa_nil))) (pe_call (ok_zone T) (hr.mono (by decide)) (by rfl) T.g_zone T.F_zone.kp T.b_zone .nil pass0 (pa_cons (pv 0) (pa_cons (pv 2) pa_nil))) (nomark _)))))
          (pss_one (ps_ret pe_bl))
          pss_nil))))
      (pss_one (ps_ret pe_bl))), ?_⟩
    refine ⟨_, rfl, q, xs, tt, rfl, hS, fun J GG wk hG => ?_⟩
    refine for_it wk (fun i σ H' => ∃ vf, σ = [some (.str (rgS l)), some (.ref q), some (.int ((k : Nat) : Int)), vf] ∧ Same H H' ∧ opn l (fs.take i) k = true) ⟨none, rfl, Same.refl _, rfl⟩ (fun i σ H' _ h => by obtain ⟨_, _, sm, _⟩ := h; exact hG _ (hS.keep sm)) (fun i x σ H1 H2 hi hP hY => ?_) (fun σ H' hP => ?_)
    · obtain ⟨vf, rfl, sm, op⟩ := hP
      obtain ⟨rfl, hx⟩ := hY
      obtain ⟨f, hf, a⟩ := ft_at hds hx
      obtain ⟨r, rfl, hr1⟩ := ft_inv (a.k (Kt.same sm))
      refine ⟨_, rfl, _, rfl, by show 2 ≤ sizeLine; decide, fun u hu => ?_⟩
      have s2 := sm.trans (same_new (o := .tup [.str "cut", .int ((k : Nat) : Int)]) hu)
      have os := opn_snoc (l := l) (k := k) hf
      have hr2 := sameT (same_new (o := .tup [.str "cut", .int ((k : Nat) : Int)]) hu) hr1
      refine ⟨ftD f, .tuple [.str "cut", .int ((k : Nat) : Int)], (a.k (Kt.same s2)).toDp, .tup (SqT.of upd_same) (.cons (.str _) (.cons (.int _) .nil)), ft_shaped f, ft_shaped (true, k), _, rfl, ?_⟩
      rw [zone_data]
      cases ef : f.1 with
      | true =>
        rw [ef] at os
        have st := opn_stop (l := l) (k := k) hf
        rw [ef] at st
        by_cases c : f.2 = k
        · rw [decide_eq_true c]
          refine iteT ?_
          have := kk _ s2
          rw [st (by rw [decide_eq_true c]; rfl)] at this
          exact this
        · rw [decide_eq_false c]
          refine iteF ?_
          refine ⟨_, rfl, r, _, _, _, rfl, rfl, hr2, atI_nat (j := 0) rfl, rfl, _, rfl, ?_⟩
          rw [wd_short, ef]
          refine iteF ⟨_, rfl, s2, ?_⟩
          rw [os, op, decide_eq_false c]
          rfl
      | false =>
        rw [ef] at os
        have st := opn_stop (l := l) (k := k) hf
        rw [ef] at st
        refine iteF ?_
        refine ⟨_, rfl, r, _, _, _, rfl, rfl, hr2, atI_nat (j := 0) rfl, rfl, _, rfl, ?_⟩
        rw [wd_short, ef]
        refine iteT ?_
        refine ⟨_, rfl, _, rfl, r, _, _, _, rfl, rfl, hr2, atI_nat (j := 1) rfl, f.2, l, rfl, hl, fun H5 s5 => ?_⟩
        refine ⟨_, rfl, _, rfl, k, l, rfl, hl, fun H6 s6 => ?_⟩
        refine ⟨rfl, _, rfl, ?_⟩
        have e9 : decide (V.int ((zone l f.2 : Nat) : Int) = V.int ((zone l k : Nat) : Int)) = decide (zone l f.2 = zone l k) := by
          by_cases c : zone l f.2 = zone l k
          · rw [c, decide_eq_true rfl, decide_eq_true rfl]
          · rw [decide_eq_false c, decide_eq_false fun z => c (by have := V.int.inj z; omega)]
        rw [e9]
        have s6 := (s2.trans s5).trans s6
        by_cases c : zone l f.2 = zone l k
        · rw [decide_eq_true c]
          refine iteT ?_
          have := kk _ s6
          rw [st (by rw [decide_eq_true c]; rfl)] at this
          exact this
        · rw [decide_eq_false c]
          refine iteF ⟨_, rfl, s6, ?_⟩
          rw [os, op, decide_eq_false c]
          rfl
    · obtain ⟨vf, rfl, sm, op⟩ := hP
      rw [el, List.take_length] at op
      have := kk _ sm
      rw [op] at this
      exact this
theorem ok_passed (T : Txt K mg) : FnOk P w K mg base CX0 3 T.a_passed T.d_passed ["_law_text_here", "_law_faults_here", "_law_stretches"] (sp_passed K) := by
  refine T.F_passed.ok sc_passed (fun vs H Q E h => ?_) (fun cdv A outer s H vs Q E hr h => ?_)
  · obtain ⟨q, r, l, fs, ks, rfl, _⟩ := h
    rfl
  · obtain ⟨q, r, l, fs, ks, rfl, hl, hF, fok, hr0, hk, kk⟩ := h
    refine ⟨_, (pss_one (ps_ret (pe_callB (cr_all rfl) (by rfl) T.z_all (by decide +kernel) (pa_cons (pe_lc (own := [("_law_k", 3)]) (g := gName 3) (tt := tYes) rfl sc_passed.nd (pi_list (pv 2)) (blkOk_by (own := [("_law_k", 3)]) (N := nm_passed) (sc := (defScope s_passed)) (by decide +kernel)) (fun _ _ _ _ _ => pg_name (i := 3) sc_passed.nd rfl (Or.inl rfl)) (fun _ _ _ _ _ => pts_nil) (fun _ _ _ _ _ => (pe_call (ok_open_at T) (hr.mono (by decide)) (by rfl) T.g_open_at T.F_open_at.kp T.b_open_at .nil pass0 (pa_cons (pv 0) (pa_cons (pv 1) (pa_cons (pv 3) pa_nil)))))) pa_nil)))), ?_⟩
    refine ⟨_, rfl, r, rfl, ⟨_, SqL.of hr0⟩, fun D hD => ?_⟩
    refine lc_list (xs := nV ks) (fun i H' => Same H H' ∧ H' D = some (.lst (((ks.take i).map (opn l fs)).map V.bl))) ⟨same_new hD, upd_same⟩ (fun i H3 _ hP => SqL.of (hP.1 _ _ hr0)) (fun i x H3 hx hP => ?_) (fun H3 hP => ?_)
    · obtain ⟨sm, hL⟩ := hP
      unfold nV at hx
      rw [List.getElem?_map] at hx
      obtain ⟨k, hk2, rfl⟩ := Option.map_eq_some_iff.mp hx
      refine ⟨rfl, yesT ?_⟩
      refine ⟨_, rfl, _, rfl, _, rfl, k, q, l, fs, rfl, hl, hF.k sm, fok, fun H4 s4 => ?_⟩
      refine ⟨_, s4 _ _ hL, by rw [List.length_map, List.length_map, List.length_take]; exact small1000 (by omega), same_mut (sm.trans s4) hD, ?_⟩
      rw [upd_same, List.map_take, List.map_take (l := ks) (i := i + 1), tk_map V.bl (l := ks.map (opn l fs)) (i := i) (by rw [List.getElem?_map, hk2]; rfl)]
    · obtain ⟨sm, hL⟩ := hP
      rw [nV_len, List.take_length] at hL
      refine ⟨D, _, rfl, SqL.of hL, ?_⟩
      have e : (ks.map (opn l fs)).all id = ks.all (opn l fs) := by rw [List.all_map]; rfl
      rw [e]
      exact kk _ sm
end
end K52

namespace K52
open PySem L2 Wm TL Dv Rm Lo
section
variable {P : Program} {w : World} {K : PySem.W.Frag} {mg : Str → Option Value} {base : Heap}
theorem dts_of {H : Hp} {ys : List V} {ds : List PyData} (l : ys.length = ds.length) (h : ∀ (i : Nat) y, ys[i]? = some y → ∃ d, ds[i]? = some d ∧ Dt K H y d) : Dts K H ys ds := by
  induction ds generalizing ys with
  | nil =>
    rw [List.eq_nil_of_length_eq_zero l]
    exact .nil
  | cons d ds ih =>
    cases ys with
    | nil => cases l
    | cons y ys =>
      refine .cons ?_ (ih (by simpa using l) fun i z hz => ?_)
      · obtain ⟨e, he, a⟩ := h 0 y rfl
        cases he
        exact a
      · obtain ⟨e, he, a⟩ := h (i + 1) z (by simpa using hz)
        exact ⟨e, by simpa using he, a⟩
theorem kt_bt {b : Addr} {n : Nat} {H H' : Hp} (bag : Bg H b n) (e : Bt b H H') : Kt K H H' := fun a xs q => by
  obtain ⟨c, k, x, y, z, ns, hb, _⟩ := bag
  rcases q with (q | ⟨ob, q⟩) | q
  · exact .inl (.inl (e.keep _ _ (fun z => by rw [z, hb] at q; cases q) q))
  · exact .inl (.inr ⟨ob, e.keep _ _ (fun z => by rw [z, hb] at q; cases q) q⟩)
  · exact .inr q
theorem bt_new {b v : Addr} {H H' : Hp} {o : HO} (e : Bt b H H') (h : H' v = none) : Bt b H (upd H' v o) := e.trans (Bt.of (same_new h))
theorem ite_lim {σ : L2.St} {c : Bool} {a b : Int} {H1 : Hp} {Q : VK} (q : ∀ x, (x = a ∨ x = b) → Q (.int x) H1) : if c = true then tC (V.int a) σ H1 Q else tC (V.int b) σ H1 Q := by
  cases c with
  | true => exact iteT (q _ (.inl rfl))
  | false => exact iteF (q _ (.inr rfl))
theorem ite_sgn {σ : L2.St} {c : Bool} {H1 : Hp} {Q : VK} (q : ∀ b : Bool, Q (.str (rgS [b])) H1) : if c = true then tC (V.str "s") σ H1 Q else tC (V.str "o") σ H1 Q := by
  cases c with
  | true =>
    have := q true
    rw [rgS_s] at this
    exact iteT this
  | false =>
    have := q false
    rw [rgS_o] at this
    exact iteF this
theorem mem_s_dec (l : List Bool) : (!decide (115 ∈ (rgS l).cps.toList)) = !decide (true ∈ l) := by
  congr 1
  exact decide_eq_decide.mpr (mem_s l)
theorem ok_text (T : Txt K mg) : FnOk P w K mg base CX0 2 T.a_text T.d_text ["_law_state"] (sp_text K) := by
  refine T.F_text.ok sc_text (fun vs H Q E h => ?_) (fun cdv A outer s H vs Q E hr h => ?_)
  · obtain ⟨b, n, rfl, _⟩ := h
    rfl
  · obtain ⟨b, n, rfl, hbag, hn, kk⟩ := h
    refine ⟨_, (pss_cons (ps_set (i := 1) sc_text.nd rfl (Or.inl rfl) (pe_op op_add pe_int (pe_call (ok_draw T) (hr.mono (by decide)) (by rfl) T.g_draw T.F_draw.kp T.b_draw .nil pass0 (pa_cons (pv 0) (pa_cons (pe_ifExp (pt_cmpR op_eq (pe_call (ok_draw T) (hr.mono (by decide)) (by rfl) T.g_draw T.F_draw.kp T.b_draw .nil pass0 (pa_cons (pv 0) (pa_cons pe_int pa_nil))) pe_int (nomark _)) pe_int pe_int) pa_nil)))))
      (pss_cons (ps_set (i := 2) sc_text.nd rfl (Or.inl rfl) (pe_ix ix_tup (pe_tup (pa_cons pe_int (pa_cons pe_int (pa_cons pe_int (pa_cons pe_int pa_nil))))) (pe_call (ok_draw T) (hr.mono (by decide)) (by rfl) T.g_draw T.F_draw.kp T.b_draw .nil pass0 (pa_cons (pv 0) (pa_cons pe_int pa_nil))) (fun _ _ => rfl)))
      (pss_cons (ps_set (i := 3) sc_text.nd rfl (Or.inl rfl) pe_str)
      (pss_cons (ps_for PassesOwn.never rfl (pi_range1 (by rfl) T.z_range (pa_cons (pv 1) pa_nil)) (pg_name (i := 4) sc_text.nd rfl (Or.inl rfl))
        (pss_one (ps_set (i := 3) sc_text.nd rfl (Or.inl rfl) (pe_op op_add_str (pv 3) (pe_ifExp (pt_cmpR op_ge (pe_call (ok_draw T) (hr.mono (by decide)) (by rfl) T.g_draw T.F_draw.kp T.b_draw .nil pass0 (pa_cons (pv 0) (pa_cons pe_int pa_nil))) (pv 2) (nomark _)) pe_str pe_str)))))
      (C8.pss_cut (ps_if (pt_cmpR op_notIn_sign pe_str (pv 3) rfl)
        (pss_cons (ps_set (i := 5) sc_text.nd rfl (Or.inl rfl) (pe_call (ok_draw T) (hr.mono (by decide)) (by rfl) T.g_draw T.F_draw.kp T.b_draw .nil pass0 (pa_cons (pv 0) (pa_cons (pv 1) pa_nil))))
        (pss_one (ps_set (i := 3) sc_text.nd rfl (Or.inl rfl) (pe_op op_add_str (pe_op op_add_str (pe_slice sl_str (pv 3) po_none (po_some (pv 5))) pe_str) (pe_slice sl_str (pv 3) (po_some (pe_op op_add (pv 5) pe_int)) po_none)))))
        pss_nil)
      (pss_one (ps_ret (pv 3)))))))), ?_⟩
    refine ⟨_, rfl, _, rfl, b, n, 4, rfl, by decide, by decide, hbag, by omega, fun H1 d1 g0 g1 bag1 but1 => ?_⟩
    refine ⟨rfl, _, rfl, ite_lim fun lim hlim => ?_⟩
    refine ⟨b, n + 1, lim, rfl, by omega, by omega, bag1, by omega, fun H2 d2 w0 w1 bag2 but2 => ?_⟩
    refine ⟨_, _, rfl, rfl, ?_⟩
    obtain ⟨many, em⟩ : ∃ many : Nat, (1 : Int) + d2 = (many : Nat) := ⟨(1 + d2).toNat, by omega⟩
    (try dsimp only; rw [em])
    have m1 : 1 ≤ many ∧ many ≤ 10 := by omega
    refine ⟨by show 4 ≤ sizeLine; decide, fun u hu => ?_⟩
    have but2u := (but1.trans but2).trans (Bt.of (same_new (o := .tup [.int 1, .int 1, .int 1, .int 2]) hu))
    refine ⟨_, rfl, b, n + 2, 4, rfl, by decide, by decide, bag2.keep (same_new hu), by omega, fun H3 d3 q0 q1 bag3 but3 => ?_⟩
    have ub : u ≠ b := bag2.off hu
    obtain ⟨sh, hsh⟩ : ∃ sh : Int, atI [V.int 1, V.int 1, V.int 1, V.int 2] d3 = some (.int sh) := by
      have : d3 = 0 ∨ d3 = 1 ∨ d3 = 2 ∨ d3 = 3 := by omega
      rcases this with rfl | rfl | rfl | rfl <;> exact ⟨_, rfl⟩
    refine ⟨u, _, d3, _, rfl, rfl, SqT.of (but3.keep _ _ ub upd_same), hsh, ?_⟩
    have but3b := but2u.trans but3
    refine ⟨_, rfl, _, rfl, by omega, by omega, ?_⟩
    rw [Int.toNat_natCast]
    refine for_range (fun i σ H' => ∃ (l : List Bool) (vk : Option V), σ = [some (.ref b), some (.int ((many : Nat) : Int)), some (.int sh), some (.str (rgS l)), vk, none] ∧ l.length = i ∧ Bg H' b (n + 3 + i) ∧ Bt b H H')
      ⟨[], none, by rw [rgS_nil]; rfl, rfl, bag3, but3b⟩ (fun i σ H' hi hP => ?_) (fun σ H' hP => ?_)
    · obtain ⟨l, vk, rfl, el, bag, but⟩ := hP
      refine ⟨_, rfl, _, rfl, b, n + 3 + i, 4, rfl, by decide, by decide, bag, by omega, fun H4 d4 e0 e1 bag4 but4 => ?_⟩
      refine ⟨_, rfl, _, _, rfl, rfl, _, rfl, ite_sgn fun x => ?_⟩
      refine ⟨_, _, rfl, rfl, by rw [rgS_len, rgS_len]; exact small_len (by simp; omega), ?_⟩
      rw [rgS_app]
      exact ⟨l ++ [x], _, rfl, by simp [el], bag4, but.trans but4⟩
    · obtain ⟨l, vk, rfl, el, bag, but⟩ := hP
      refine ⟨fun σ H1 => ∃ (l : List Bool) (vk va : Option V), σ = [some (.ref b), some (.int ((many : Nat) : Int)), some (.int sh), some (.str (rgS l)), vk, va] ∧ Ri l ∧ Bg H1 b (n + 30) ∧ Bt b H H1, ?_, ?_⟩
      · refine ⟨_, rfl, 115, _, rfl, rfl, _, rfl, ?_⟩
        rw [mem_s_dec]
        by_cases c : true ∈ l
        · rw [decide_eq_true c]
          exact iteF ⟨l, vk, none, rfl, ⟨by omega, c⟩, bag.mono (by omega), but⟩
        · rw [decide_eq_false c]
          refine iteT ⟨_, rfl, _, rfl, b, _, _, rfl, by omega, by omega, bag, by omega, fun H4 d4 e0 e1 bag4 but4 => ?_⟩
          obtain ⟨at', ea⟩ : ∃ at' : Nat, d4 = (at' : Nat) := ⟨d4.toNat, by omega⟩
          subst ea
          refine ⟨_, rfl, _, rfl, _, rfl, _, rfl, rg_small (by omega), ?_⟩
          rw [rgS_take]
          refine ⟨_, _, rfl, rfl, by rw [rgS_len, List.length_take]; exact small_len (Nat.le_trans (Nat.add_le_add_right (Nat.min_le_right _ _) _) (by show l.length + 1 ≤ _; omega)), ?_⟩
          rw [← rgS_s, rgS_app]
          refine ⟨_, rfl, _, rfl, _, _, rfl, rfl, ((at' + 1 : Nat) : Int), (by rw [Int.natCast_add]; rfl), _, rfl, rg_small (by omega), ?_⟩
          rw [rgS_drop]
          have ln : (l.take at' ++ [true] ++ l.drop (at' + 1)).length = l.length := by
            simp only [List.length_append, List.length_take, List.length_drop, List.length_singleton]
            omega
          refine ⟨_, _, rfl, rfl, by rw [rgS_len, rgS_len, ← List.length_append, ln]; exact small_len (by omega), ?_⟩
          rw [rgS_app]
          exact ⟨_, vk, _, rfl, ⟨by rw [ln]; omega, by simp⟩, bag4.mono (by omega), but.trans but4⟩
      · rintro σ H1 ⟨l, vk, va, rfl, R, bag, but⟩
        exact ⟨_, rfl, kk _ l R bag but⟩
theorem ok_faults (T : Txt K mg) : FnOk P w K mg base CX0 2 T.a_faults T.d_faults ["_law_state", "_law_text_here", "_law_many"] (sp_faults K) := by
  refine T.F_faults.ok sc_faults (fun vs H Q E h => ?_) (fun cdv A outer s H vs Q E hr h => ?_)
  · obtain ⟨b, n, many, l, rfl, _⟩ := h
    rfl
  · obtain ⟨b, n, many, l, rfl, hm, hl, hbag, hn, kk⟩ := h
    refine ⟨_, (pss_cons (ps_set (i := 3) sc_faults.nd rfl (Or.inl rfl) (pe_lst pa_nil))
      (pss_cons (ps_for PassesOwn.never rfl (pi_range1 (by rfl) T.z_range (pa_cons (pv 2) pa_nil)) (pg_name (i := 4) sc_faults.nd rfl (Or.inl rfl))
        (pss_one (ps_expr (pe_bm PySem.F.plainAttrs_list PySem.F.slot_list_append PySem.F.type_list_append mt_append (pv 3) (pa_cons (pe_tup (pa_cons (pe_ix ix_tup (pe_tup (pa_cons pe_str (pa_cons pe_str pa_nil))) (pe_call (ok_draw T) (hr.mono (by decide)) (by rfl) T.g_draw T.F_draw.kp T.b_draw .nil pass0 (pa_cons (pv 0) (pa_cons pe_int pa_nil))) (fun _ _ => rfl)) (pa_cons (pe_call (ok_draw T) (hr.mono (by decide)) (by rfl) T.g_draw T.F_draw.kp T.b_draw .nil pass0 (pa_cons (pv 0) (pa_cons (pe_op op_add (pe_callB call_len_str (by rfl) T.z_len PySem.boot_len (pa_cons (pv 1) pa_nil)) pe_int) pa_nil))) pa_nil))) pa_nil)))))
      (pss_one (ps_ret (pv 3))))), ?_⟩
    refine ⟨by decide, fun D hD => ?_⟩
    have Db := hbag.off hD
    refine ⟨_, rfl, _, rfl, by omega, by omega, ?_⟩
    rw [Int.toNat_natCast]
    refine for_range (fun i σ H' => ∃ fs xs vk, σ = [some (.ref b), some (.str (rgS l)), some (.int ((many : Nat) : Int)), some (.ref D), vk] ∧ fs.length = i ∧ (∀ f ∈ fs, f.2 ≤ l.length) ∧ H' D = some (.lst xs) ∧ Dts K H' xs (fs.map ftD) ∧ Bg H' b (n + 2 * i) ∧ Bt b H H')
      ⟨[], [], none, rfl, rfl, fun _ m => absurd m (List.not_mem_nil), upd_same, .nil, hbag.keep (same_new hD), Bt.of (same_new hD)⟩ (fun i σ H' hi hP => ?_) (fun σ H' hP => ?_)
    · obtain ⟨fs, xs, vk, rfl, el, hf, hD', hds, bag, but⟩ := hP
      refine ⟨_, rfl, .inl ⟨rfl, _, SqL.of hD'⟩, ?_⟩
      refine ⟨by show 2 ≤ sizeLine; decide, fun u hu => ?_⟩
      have ub : u ≠ b := bag.off hu
      have bu := Bt.of (b := b) (same_new (o := .tup [.str "cut", .str "short"]) hu)
      refine ⟨_, rfl, b, _, 2, rfl, by decide, by decide, bag.keep (same_new hu), by omega, fun H4 d4 e0 e1 bag4 but4 => ?_⟩
      obtain ⟨wd, hwd⟩ : ∃ wd : Bool, atI [V.str "cut", V.str "short"] d4 = some (.str (wdS wd)) := by
        have : d4 = 0 ∨ d4 = 1 := by omega
        rcases this with rfl | rfl
        · exact ⟨true, rfl⟩
        · exact ⟨false, rfl⟩
      refine ⟨u, _, d4, _, rfl, rfl, SqT.of (but4.keep _ _ ub upd_same), hwd, ?_⟩
      refine ⟨_, rfl, _, rfl, _, rfl, rg_small (by omega), _, _, rfl, rfl, b, _, _, rfl, by rw [rgS_len]; omega, by rw [rgS_len]; omega, bag4, by omega, fun H5 d5 f0 f1 bag5 but5 => ?_⟩
      rw [rgS_len] at f1
      obtain ⟨at', ea⟩ : ∃ at' : Nat, d5 = (at' : Nat) := ⟨d5.toNat, by omega⟩
      subst ea
      have b25 := (bu.trans but4).trans but5
      have hD5 := b25.keep _ _ Db hD'
      refine ⟨by show 2 ≤ sizeLine; decide, fun v hv => ?_⟩
      have vD : D ≠ v := ne_of_none hD5 hv
      have hD6 := at_old (q := v) (u := .tup [.str (wdS wd), .int ((at' : Nat) : Int)]) hD5 hv
      have lx := hds.len
      rw [List.length_map] at lx
      refine ⟨_, xs, _, rfl, rfl, hD6, by rw [lx, el]; exact small1000 (by omega), ?_⟩
      have k5 : Kt K (upd H5 v (.tup [.str (wdS wd), .int ((at' : Nat) : Int)])) (upd (upd H5 v (.tup [.str (wdS wd), .int ((at' : Nat) : Int)])) D (.lst (xs ++ [.ref v]))) := Kt.lst hD6
      refine ⟨fs ++ [(wd, at')], xs ++ [.ref v], _, rfl, by rw [List.length_append, el]; rfl, fun f m => ?_, upd_same, ?_, ?_, ?_⟩
      · rcases List.mem_append.mp m with m | m
        · exact hf f m
        · rw [List.mem_singleton.mp m]
          show at' ≤ l.length
          omega
      · rw [List.map_append]
        refine (((hds.k (kt_bt bag b25)).k (Kt.new hv)).k k5).snoc (Dt.k (dt_tup upd_same (.cons (.str _) (.cons (.int _) .nil))) k5)
      · exact (hbag.put (m := n + 2 * i + 1 + 1) hD (but.trans (bt_new b25 hv)) (bag5.keep (same_new hv))).mono (by omega)
      · exact (but.trans (bt_new b25 hv)).put hD
    · obtain ⟨fs, xs, vk, rfl, el, hf, hD', hds, bag, but⟩ := hP
      exact ⟨_, rfl, kk _ D fs xs hD el hf hD' hds bag but⟩
theorem ok_heard (T : Txt K mg) : FnOk P w K mg base CX0 4 T.a_heard T.d_heard ["_law_text_here", "_law_faults_here"] (sp_heard K) := by
  refine T.F_heard.ok sc_heard (fun vs H Q E h => ?_) (fun cdv A outer s H vs Q E hr h => ?_)
  · obtain ⟨q, l, fs, rfl, _⟩ := h
    rfl
  · obtain ⟨q, l, fs, rfl, hl, hF, fok, kk⟩ := h
    refine ⟨_, (pss_cons (ps_set (i := 2) sc_heard.nd rfl (Or.inl rfl) (pe_call (ok_spots T) (hr.mono (by decide)) (by rfl) T.g_spots T.F_spots.kp T.b_spots .nil pass0 (pa_cons (pv 0) pa_nil)))
      (pss_cons (ps_set (i := 3) sc_heard.nd rfl (Or.inl rfl) (pe_lst pa_nil))
      (pss_cons (ps_for PassesOwn.never rfl (pi_range1 (by rfl) T.z_range (pa_cons (pe_callB call_len_seq (by rfl) T.z_len PySem.boot_len (pa_cons (pv 2) pa_nil)) pa_nil)) (pg_name (i := 4) sc_heard.nd rfl (Or.inl rfl))
        (pss_cons (ps_set (i := 5) sc_heard.nd rfl (Or.inl rfl) (pe_call (ok_passed T) (hr.mono (by decide)) (by rfl) T.g_passed T.F_passed.kp T.b_passed .nil pass0 (pa_cons (pv 0) (pa_cons (pv 1) (pa_cons (pe_listRg rfl (by rfl) T.z_list (prg_1 (by rfl) T.z_range (pe_op op_add (pe_ix ix_list (pv 2) (pv 4) (fun _ _ => rfl)) pe_int))) pa_nil)))))
        (pss_cons (ps_set (i := 6) sc_heard.nd rfl (Or.inl rfl) (pe_call (ok_passed T) (hr.mono (by decide)) (by rfl) T.g_passed T.F_passed.kp T.b_passed .nil pass0 (pa_cons (pv 0) (pa_cons (pv 1) (pa_cons (pe_listRg rfl (by rfl) T.z_list (prg_2 (by rfl) T.z_range (pe_op op_add (pe_ix ix_list (pv 2) (pv 4) (fun _ _ => rfl)) pe_int) (pe_op op_add (pe_callB call_len_str (by rfl) T.z_len PySem.boot_len (pa_cons (pv 0) pa_nil)) pe_int))) pa_nil)))))
        (pss_one (ps_if (PW.pt (pw_or (pt_val (pv 5)) (pw_or1 (pt_val (pv 6)))))
          (pss_one (ps_expr (pe_bm PySem.F.plainAttrs_list PySem.F.slot_list_append PySem.F.type_list_append mt_append (pv 3) (pa_cons (pv 4) pa_nil))))
          pss_nil)))))
      (pss_one (ps_ret (pe_callTy call_tuple_of (by rfl) T.z_tuple (by decide +kernel) (pa_cons (pv 3) pa_nil))))))), ?_⟩
    refine ⟨_, rfl, l, rfl, hl, fun H1 r s1 nr hr1 => ?_⟩
    refine ⟨by decide, fun D hD => ?_⟩
    have cl : l.count true ≤ l.length := List.count_le_length
    have rD : r ≠ D := ne_of_none hr1 hD
    have s2 := s1.trans (same_new (o := .lst []) hD)
    refine ⟨_, rfl, r, _, rfl, .inl (SqL.of (at_old hr1 hD)), _, rfl, by rw [nV_len, Rm.sp_len]; omega, by rw [nV_len, Rm.sp_len]; omega, ?_⟩
    rw [nV_len, Rm.sp_len, Int.toNat_natCast]
    refine for_range (fun i σ H' => ∃ v4 v5 v6, σ = [some (.str (rgS l)), some (.ref q), some (.ref r), some (.ref D), v4, v5, v6] ∧ Same H H' ∧ H' r = some (.lst (nV (sp l))) ∧ H' D = some (.lst (nV ((List.range i).filter fun j => pL l (opn l fs) j || pR l (opn l fs) j))))
      ⟨none, none, none, rfl, s2, at_old hr1 hD, upd_same⟩ (fun i σ H' hi hP => ?_) (fun σ H' hP => ?_)
    · obtain ⟨v4, v5, v6, rfl, sm, hr', hD'⟩ := hP
      have es := sp_at hi
      have esl := sp_mem l i _ es
      have es2 : (nV (sp l))[i]? = some (.int ((spo l i : Nat) : Int)) := by unfold nV; rw [List.getElem?_map, es]; rfl
      refine ⟨_, rfl, _, rfl, _, rfl, _, rfl, r, _, ((i : Nat) : Int), _, rfl, (show V.int (0 + ((i : Nat) : Int)) = V.int ((i : Nat) : Int) by rw [Int.zero_add]), SqL.of hr', atI_nat es2, _, _, rfl, rfl, _, rfl, RgOk.of_le (by omega) (by omega) (by omega) (by omega), fun u hu => ?_⟩
      have eA : rgV 0 (((spo l i : Nat) : Int) + 1) = nV (List.range (spo l i + 1)) := nV_rg (spo l i + 1)
      have eB : rgV (((spo l i : Nat) : Int) + 1) (((l.length : Nat) : Int) + 1) = nV (List.range' (spo l i + 1) (l.length - spo l i)) := by
        rw [← rgV_nats]
        congr 1
        omega
      rw [eA]
      have s3 := sm.trans (same_new (o := .lst (nV (List.range (spo l i + 1)))) hu)
      refine ⟨q, u, l, fs, _, rfl, hl, hF.k s3, fok, upd_same, by rw [List.length_range]; omega, fun H4 s4 => ?_⟩
      have s34 := s3.trans s4
      have hr4 := s4 _ _ (at_old (q := u) (u := .lst (nV (List.range (spo l i + 1)))) hr' hu)
      have hD4 := s4 _ _ (at_old (q := u) (u := .lst (nV (List.range (spo l i + 1)))) hD' hu)
      refine ⟨_, rfl, _, rfl, _, rfl, _, rfl, r, _, ((i : Nat) : Int), _, rfl, (show V.int (0 + ((i : Nat) : Int)) = V.int ((i : Nat) : Int) by rw [Int.zero_add]), SqL.of hr4, atI_nat es2, _, _, rfl, rfl, _, rfl, _, rfl, rg_small (by omega), _, _, rfl, rfl, _, _, rfl, rfl, ?_⟩
      rw [rgS_len]
      refine ⟨RgOk.of_le (by omega) (by omega) (by omega) (by omega), fun v hv => ?_⟩
      rw [eB]
      have s5 := s34.trans (same_new (o := .lst (nV (List.range' (spo l i + 1) (l.length - spo l i)))) hv)
      refine ⟨q, v, l, fs, _, rfl, hl, hF.k s5, fok, upd_same, by rw [List.length_range']; omega, fun H6 s6 => ?_⟩
      have s56 := s5.trans s6
      have hr6 := s6 _ _ (at_old (q := v) (u := .lst (nV (List.range' (spo l i + 1) (l.length - spo l i)))) hr4 hv)
      have hD6 := s6 _ _ (at_old (q := v) (u := .lst (nV (List.range' (spo l i + 1) (l.length - spo l i)))) hD4 hv)
      have hD0 : H D = none := none_back s1 hD
      have rng : (List.range (i + 1)).filter (fun j => pL l (opn l fs) j || pR l (opn l fs) j) = (List.range i).filter (fun j => pL l (opn l fs) j || pR l (opn l fs) j) ++ if (pL l (opn l fs) i || pR l (opn l fs) i) = true then [i] else [] := by
        rw [List.range_succ, List.filter_append]
        cases e : (pL l (opn l fs) i || pR l (opn l fs) i) <;> simp [e]
      have lf : ((List.range i).filter fun j => pL l (opn l fs) j || pR l (opn l fs) j).length ≤ 10 := Nat.le_trans (List.length_filter_le _ _) (by rw [List.length_range]; omega)
      have fin : (pL l (opn l fs) i || pR l (opn l fs) i) = true → Same H (upd H6 D (.lst (nV ((List.range i).filter fun j => pL l (opn l fs) j || pR l (opn l fs) j) ++ [V.int (0 + ((i : Nat) : Int))]))) ∧ upd H6 D (.lst (nV ((List.range i).filter fun j => pL l (opn l fs) j || pR l (opn l fs) j) ++ [V.int (0 + ((i : Nat) : Int))])) r = some (.lst (nV (sp l))) ∧
          upd H6 D (.lst (nV ((List.range i).filter fun j => pL l (opn l fs) j || pR l (opn l fs) j) ++ [V.int (0 + ((i : Nat) : Int))])) D = some (.lst (nV ((List.range (i + 1)).filter fun j => pL l (opn l fs) j || pR l (opn l fs) j))) := fun e => by
        refine ⟨same_mut s56 hD0, by rw [upd_ne rD]; exact hr6, ?_⟩
        rw [upd_same, rng, if_pos e, Int.zero_add, nV_snoc]
      refine ⟨_, rfl, _, rfl, ?_⟩
      cases e1 : (List.range (spo l i + 1)).all (opn l fs) with
      | true =>
        have e2 : (pL l (opn l fs) i || pR l (opn l fs) i) = true := Bool.or_eq_true_iff.mpr (.inl e1)
        refine iteT ⟨_, rfl, .inl ⟨rfl, _, SqL.of hD6⟩, _, rfl, D, _, _, rfl, rfl, hD6, by rw [nV_len]; exact small1000 (by omega), ?_⟩
        exact ⟨_, _, _, rfl, (fin e2).1, (fin e2).2.1, (fin e2).2.2⟩
      | false =>
        refine iteF ⟨_, rfl, _, rfl, ?_⟩
        cases e3 : (List.range' (spo l i + 1) (l.length - spo l i)).all (opn l fs) with
        | true =>
          have e2 : (pL l (opn l fs) i || pR l (opn l fs) i) = true := Bool.or_eq_true_iff.mpr (.inr e3)
          refine iteT ⟨_, rfl, .inl ⟨rfl, _, SqL.of hD6⟩, _, rfl, D, _, _, rfl, rfl, hD6, by rw [nV_len]; exact small1000 (by omega), ?_⟩
          exact ⟨_, _, _, rfl, (fin e2).1, (fin e2).2.1, (fin e2).2.2⟩
        | false =>
          have e2 : (pL l (opn l fs) i || pR l (opn l fs) i) = false := Bool.or_eq_false_iff.mpr ⟨e1, e3⟩
          refine iteF ⟨_, _, _, rfl, s56, hr6, ?_⟩
          rw [rng, if_neg (by rw [e2]; decide), List.append_nil]
          exact hD6
    · obtain ⟨v4, v5, v6, rfl, sm, hr', hD'⟩ := hP
      refine ⟨_, rfl, D, _, rfl, .inl ⟨SqL.of hD', fun t ht => ?_⟩⟩
      exact kk _ t (sm.trans (same_new ht)) (none_back sm ht) upd_same
theorem pos_take {l : List Bool} {i z k : Nat} (h : (zs l)[i]? = some k) : pos 0 ((zs l).take (i + 1)) z = pos 0 ((zs l).take i) z ++ if k = z then [i] else [] := by
  have hi := (List.getElem?_eq_some_iff.mp h).1
  rw [List.take_add_one, h]
  show pos 0 ((zs l).take i ++ [k]) z = _
  rw [pos_snoc, List.length_take, Nat.min_eq_left (Nat.le_of_lt hi), Nat.zero_add]
theorem zs_at {l : List Bool} {i : Nat} (h : i < l.count true) : (zs l)[i]? = some (zone l (spo l i)) := by
  rw [zs_sp, List.getElem?_map, sp_at h]
  rfl
theorem pos_len : ∀ (a : List Nat) (f z : Nat), (pos f a z).length ≤ a.length
  | [], _, _ => Nat.le_refl _
  | x :: a, f, z => by
    have := pos_len a (f + 1) z
    show (if x = z then f :: pos (f + 1) a z else pos (f + 1) a z).length ≤ _
    split <;> simp <;> omega
end
end K52

namespace K52
open PySem L2 Wm TL Dv Rm Lo
section
variable {P : Program} {w : World} {K : PySem.W.Frag} {mg : Str → Option Value} {base : Heap}
theorem Mk_house {C HC : Addr} {H' : Hp} {p dx q : Addr} {h : Hs} (e : H' p = some (.ins HC dx [("box", .str (numS h.ds)), ("ring", .str (rgS h.l)), ("mark", .int h.m), ("rows", .int h.r), ("need", .int (h.n : Nat)), ("layout", .ref q), ("seekers", .int ((h.l.count true : Nat) : Int))])) (t : RingAt K C H' q h.l) : HouseAt K C HC H' p h := by
  refine ⟨dx, _, q, e, rfl, rfl, rfl, rfl, rfl, rfl, rfl, fun m a b c d e2 f g => ?_, t⟩
  have n : ∀ {x : Str}, m ≠ x → (m == x) = false := fun h => by simpa using h
  simp only [List.lookup, n a, n b, n c, n d, n e2, n f, n g]
theorem RingAt.off {C : Addr} {H H' : Hp} {p q : Addr} {l : List Bool} (h : RingAt K C H q l) (n : q ≠ p) (k : Kt K H H') (o : Off p H H') : RingAt K C H' q l := by
  obtain ⟨dx, fs, y, hp, l1, l2, l3, l4, t⟩ := h
  exact ⟨dx, fs, y, o _ _ n hp, l1, l2, l3, l4, t.k k⟩
theorem ok_hinit (T : Txt K mg) : FnOk P w K mg base (L2.CX P w) 5 T.a_hinit T.d_hinit ["self", "box", "ring", "mark", "rows", "need"] (sp_hinit K T.C T.HC T.CH) := by
  refine T.F_hinit.ok sc_hinit (fun vs H Q E h => ?_) (fun cdv A outer s H vs Q E hr h => ?_)
  · obtain ⟨p, dx, x, y, a, b, c, o, rfl, _⟩ := h
    rfl
  · obtain ⟨p, dx, x, y, a, b, c, o, rfl, hp, hi, er⟩ := h
    refine ⟨_, (pss_cons (ps_if (pt_not (pt_val (pe_call (ok_is_number T) (hr.mono (by decide)) (by rfl) T.g_is_number T.F_is_number.kp T.b_is_number .nil pass0 (pa_cons (pv 1) pa_nil))))
        (pss_one (ps_raiseLowH rfl T.lowH hr (takes_of rfl rfl rfl rfl) (by exact (pa_cons pe_str pa_nil))))
        pss_nil)
      (pss_cons (ps_if (pt_not (pt_val (pe_call (ok_is_ring_text T) (hr.mono (by decide)) (by rfl) T.g_is_ring_text T.F_is_ring_text.kp T.b_is_ring_text .nil pass0 (pa_cons (pv 2) pa_nil))))
        (pss_one (ps_raiseLowH rfl T.lowH hr (takes_of rfl rfl rfl rfl) (by exact (pa_cons pe_str pa_nil))))
        pss_nil)
      (pss_cons (ps_if (pt_not (pt_val (pe_call (ok_is_whole T) (hr.mono (by decide)) (by rfl) T.g_is_whole T.F_is_whole.kp T.b_is_whole .nil pass0 (pa_cons (pv 3) pa_nil))))
        (pss_one (ps_raiseLowH rfl T.lowH hr (takes_of rfl rfl rfl rfl) (by exact (pa_cons pe_str pa_nil))))
        pss_nil)
      (pss_cons (ps_if (pt_not (pt_val (pe_call (ok_is_whole_within T) (hr.mono (by decide)) (by rfl) T.g_is_whole_within T.F_is_whole_within.kp T.b_is_whole_within .nil pass0 (pa_cons (pv 4) (pa_cons pe_int (pa_cons (pe_glob (v := V.int 8) rfl T.c_MOST_ROWS ⟨_, rfl⟩) pa_nil))))))
        (pss_one (ps_raiseLowH rfl T.lowH hr (takes_of rfl rfl rfl rfl) (by exact (pa_cons pe_str pa_nil))))
        pss_nil)
      (pss_cons (ps_if (pt_not (pt_val (pe_call (ok_is_whole_within T) (hr.mono (by decide)) (by rfl) T.g_is_whole_within T.F_is_whole_within.kp T.b_is_whole_within .nil pass0 (pa_cons (pv 5) (pa_cons pe_int (pa_cons (pe_bm PySem.F.plainAttrs_str PySem.F.slot_str_count PySem.F.type_str_count mt_count (pv 2) (pa_cons (pe_glob (v := V.str "s") rfl T.c_SEEKER ⟨_, rfl⟩) pa_nil)) pa_nil))))))
        (pss_one (ps_raiseLowH rfl T.lowH hr (takes_of rfl rfl rfl rfl) (by exact (pa_cons pe_str pa_nil))))
        pss_nil)
      (pss_cons (ps_fld (pv 0) (pv 1) rfl)
      (pss_cons (ps_fld (pv 0) (pv 2) rfl)
      (pss_cons (ps_fld (pv 0) (pv 3) rfl)
      (pss_cons (ps_fld (pv 0) (pv 4) rfl)
      (pss_cons (ps_fld (pv 0) (pv 5) rfl)
      (pss_cons (ps_fld (pv 0) (pe_make T.mk_init (ok_init T) (hr.mono (by decide)) (by rfl) T.gC T.b_init .nil (Po.passL 6 rfl (takes_of rfl rfl rfl rfl)) (pa_cons (pv 2) pa_nil)) rfl)
      (pss_one (ps_fld (pv 0) (pe_fld (pe_fld (pv 0) rfl) rfl) rfl))))))))))))), ?_⟩
    have raise : ∀ {w : Str} {H1 : Hp}, Er T.CH "what" E H (.str w) → Same H H1 → ∀ dd, H1 dd = none → E (.ref T.CH) (some dd) (upd H1 dd (.xd [("what", V.str w)])) := fun er s dd hd => er _ dd (s.trans (same_new hd)) upd_same
    cases hi with
    | box bad =>
      rcases bad with ⟨t, rfl, ht, no⟩ | no
      · refine ⟨_, rfl, _, rfl, .inl ⟨_, rfl, ht, fun H1 bb s1 hb => ?_⟩⟩
        have eb : bb = false := by
          cases bb with
          | false => rfl
          | true => exact absurd (hb.mp rfl) no
        subst eb
        exact ⟨false, rfl, iteT ⟨_, rfl, raise er s1⟩⟩
      · exact ⟨_, rfl, _, rfl, .inr ⟨no, ⟨false, rfl, iteT ⟨_, rfl, raise er (Same.refl _)⟩⟩⟩⟩
    | ring N bad =>
      refine ⟨_, rfl, _, rfl, .inl ⟨_, rfl, by rw [numS_len]; have := N.len; omega, fun H1 bb s1 hb => ?_⟩⟩
      have eb : bb = true := hb.mpr ⟨_, N, rfl⟩
      subst eb
      refine ⟨true, rfl, iteF ?_⟩
      rcases bad with ⟨t, rfl, ht, no⟩ | no
      · refine ⟨_, rfl, _, rfl, .inl ⟨_, rfl, ht, fun H2 bb s2 hb => ?_⟩⟩
        have eb : bb = false := by
          cases bb with
          | false => rfl
          | true => exact absurd (hb.mp rfl) no
        subst eb
        exact ⟨false, rfl, iteT ⟨_, rfl, raise er (s1.trans s2)⟩⟩
      · obtain ⟨ty0, ty, kt⟩ := no
        exact ⟨_, rfl, _, rfl, .inr ⟨⟨ty0, fun H' s => ty H' (s1.trans s), kt⟩, ⟨false, rfl, iteT ⟨_, rfl, raise er s1⟩⟩⟩⟩
    | mark N R t =>
      refine ⟨_, rfl, _, rfl, .inl ⟨_, rfl, by rw [numS_len]; have := N.len; omega, fun H1 bb s1 hb => ?_⟩⟩
      have eb : bb = true := hb.mpr ⟨_, N, rfl⟩
      subst eb
      refine ⟨true, rfl, iteF ?_⟩
      refine ⟨_, rfl, _, rfl, .inl ⟨_, rfl, by rw [rgS_len]; have := R.len; omega, fun H2 bb s2 hb => ?_⟩⟩
      have eb : bb = true := hb.mpr ((ring_iff _).mpr R)
      subst eb
      refine ⟨true, rfl, iteF ?_⟩
      have s2 := s1.trans s2
      exact ⟨_, rfl, _, _, rfl, t.k s2, ⟨false, rfl, iteT ⟨_, rfl, raise er s2⟩⟩⟩
    | rows N R t w =>
      refine ⟨_, rfl, _, rfl, .inl ⟨_, rfl, by rw [numS_len]; have := N.len; omega, fun H1 bb s1 hb => ?_⟩⟩
      have eb : bb = true := hb.mpr ⟨_, N, rfl⟩
      subst eb
      refine ⟨true, rfl, iteF ?_⟩
      refine ⟨_, rfl, _, rfl, .inl ⟨_, rfl, by rw [rgS_len]; have := R.len; omega, fun H2 bb s2 hb => ?_⟩⟩
      have eb : bb = true := hb.mpr ((ring_iff _).mpr R)
      subst eb
      refine ⟨true, rfl, iteF ?_⟩
      have s2 := s1.trans s2
      refine ⟨_, rfl, _, _, rfl, .int _, ⟨true, rfl, iteF ?_⟩⟩
      refine ⟨_, rfl, _, _, _, _, rfl, t.k s2, ?_⟩
      rw [w]
      exact ⟨false, rfl, iteT ⟨_, rfl, raise er s2⟩⟩
    | @need ds l m r c o N R r1 r8 t w =>
      refine ⟨_, rfl, _, rfl, .inl ⟨_, rfl, by rw [numS_len]; have := N.len; omega, fun H1 bb s1 hb => ?_⟩⟩
      have eb : bb = true := hb.mpr ⟨_, N, rfl⟩
      subst eb
      refine ⟨true, rfl, iteF ?_⟩
      refine ⟨_, rfl, _, rfl, .inl ⟨_, rfl, by rw [rgS_len]; have := R.len; omega, fun H2 bb s2 hb => ?_⟩⟩
      have eb : bb = true := hb.mpr ((ring_iff _).mpr R)
      subst eb
      refine ⟨true, rfl, iteF ?_⟩
      have s2 := s1.trans s2
      refine ⟨_, rfl, _, _, rfl, .int _, ⟨true, rfl, iteF ?_⟩⟩
      refine ⟨_, rfl, _, _, _, _, rfl, .int _, ?_⟩
      rw [show within 1 8 (some r) = true by show (decide ((1 : Int) ≤ r) && decide (r ≤ 8)) = true; rw [decide_eq_true (by omega), decide_eq_true (by omega)]; rfl]
      refine ⟨true, rfl, iteF ?_⟩
      refine ⟨_, rfl, _, rfl, rfl, _, _, rfl, rfl, ?_⟩
      rw [count_s]
      refine ⟨_, _, _, _, rfl, t.k s2, ?_⟩
      rw [w]
      exact ⟨false, rfl, iteT ⟨_, rfl, raise er s2⟩⟩
    | @ok h g =>
      have N := g.num
      have R := g.ri
      have r1 := g.r1
      have r8 := g.r8
      have n1 := g.n1
      have nl := g.nl
      refine ⟨_, rfl, _, rfl, .inl ⟨_, rfl, by rw [numS_len]; have := N.len; omega, fun H1 bb s1 hb => ?_⟩⟩
      have eb : bb = true := hb.mpr ⟨_, N, rfl⟩
      subst eb
      refine ⟨true, rfl, iteF ?_⟩
      refine ⟨_, rfl, _, rfl, .inl ⟨_, rfl, by rw [rgS_len]; have := R.len; omega, fun H2 bb s2 hb => ?_⟩⟩
      have eb : bb = true := hb.mpr ((ring_iff _).mpr R)
      subst eb
      refine ⟨true, rfl, iteF ?_⟩
      have s2 := s1.trans s2
      refine ⟨_, rfl, _, _, rfl, .int _, ⟨true, rfl, iteF ?_⟩⟩
      refine ⟨_, rfl, _, _, _, _, rfl, .int _, ?_⟩
      rw [show within 1 8 (some h.r) = true by show (decide ((1 : Int) ≤ h.r) && decide (h.r ≤ 8)) = true; rw [decide_eq_true (by omega), decide_eq_true (by omega)]; rfl]
      refine ⟨true, rfl, iteF ?_⟩
      refine ⟨_, rfl, _, rfl, rfl, _, _, rfl, rfl, ?_⟩
      rw [count_s]
      refine ⟨_, _, _, _, rfl, .int _, ?_⟩
      rw [show within 1 ((h.l.count true : Nat) : Int) (some ((h.n : Nat) : Int)) = true by show (decide ((1 : Int) ≤ ((h.n : Nat) : Int)) && decide (((h.n : Nat) : Int) ≤ ((h.l.count true : Nat) : Int))) = true; rw [decide_eq_true (by omega), decide_eq_true (by omega)]; rfl]
      refine ⟨true, rfl, iteF ?_⟩
      have hp2 := s2 _ _ hp
      refine ⟨_, rfl, _, rfl, p, T.HC, dx, [], rfl, hp2, T.clHC, T.nBo, by show 0 < 1000; decide, ?_⟩
      refine ⟨_, rfl, _, rfl, p, T.HC, dx, _, rfl, upd_same, T.clHC, T.nRi, by show 1 < 1000; decide, ?_⟩
      refine ⟨_, rfl, _, rfl, p, T.HC, dx, _, rfl, upd_same, T.clHC, T.nMa, by show 2 < 1000; decide, ?_⟩
      refine ⟨_, rfl, _, rfl, p, T.HC, dx, _, rfl, upd_same, T.clHC, T.nRo, by show 3 < 1000; decide, ?_⟩
      refine ⟨_, rfl, _, rfl, p, T.HC, dx, _, rfl, upd_same, T.clHC, T.nNe, by show 4 < 1000; decide, ?_⟩
      rw [upd_upd, upd_upd, upd_upd, upd_upd]
      refine ⟨_, rfl, fun q dq hq hdq ne => ?_⟩
      have hpH : upd H2 p (.ins T.HC dx [("box", .str (numS h.ds)), ("ring", .str (rgS h.l)), ("mark", .int h.m), ("rows", .int h.r), ("need", .int (h.n : Nat))]) p = some (.ins T.HC dx [("box", .str (numS h.ds)), ("ring", .str (rgS h.l)), ("mark", .int h.m), ("rows", .int h.r), ("need", .int (h.n : Nat))]) := upd_same
      have o3 : Off p H (upd H2 p (.ins T.HC dx [("box", .str (numS h.ds)), ("ring", .str (rgS h.l)), ("mark", .int h.m), ("rows", .int h.r), ("need", .int (h.n : Nat))])) := (Off.of s2).trans Off.set
      have hq : upd H2 p (.ins T.HC dx [("box", .str (numS h.ds)), ("ring", .str (rgS h.l)), ("mark", .int h.m), ("rows", .int h.r), ("need", .int (h.n : Nat))]) q = none := hq
      have hdq : upd H2 p (.ins T.HC dx [("box", .str (numS h.ds)), ("ring", .str (rgS h.l)), ("mark", .int h.m), ("rows", .int h.r), ("need", .int (h.n : Nat))]) dq = none := hdq
      show sp_init K T.C T.CR _ (upd (upd (upd H2 p (.ins T.HC dx [("box", .str (numS h.ds)), ("ring", .str (rgS h.l)), ("mark", .int h.m), ("rows", .int h.r), ("need", .int (h.n : Nat))])) dq (.own q)) q (.ins T.C dq [])) _ _
      generalize upd H2 p (.ins T.HC dx [("box", .str (numS h.ds)), ("ring", .str (rgS h.l)), ("mark", .int h.m), ("rows", .int h.r), ("need", .int (h.n : Nat))]) = H3 at *
      have np : p ≠ q := ne_of_none hpH hq
      refine ⟨q, dq, _, rfl, upd_same, .inl ⟨h.l, rfl, R, fun H4 off rg => ⟨rfl, ?_⟩⟩⟩
      have s34 := made_off hq hdq ne off
      have hp4 := s34 _ _ hpH
      refine ⟨_, rfl, p, T.HC, dx, _, rfl, hp4, T.clHC, T.nLa, by show 5 < 1000; decide, ?_⟩
      have kt5 := kt_ins (K := K) (o := .ins T.HC dx [("box", .str (numS h.ds)), ("ring", .str (rgS h.l)), ("mark", .int h.m), ("rows", .int h.r), ("need", .int (h.n : Nat)), ("layout", .ref q)]) hp4
      have rg5 := rg.off (Ne.symm np) kt5 Off.set
      obtain ⟨dq2, fs2, y2, hq2, m1, m2, m3, m4, t2⟩ := id rg5
      refine ⟨_, rfl, p, T.HC, dx, _, _, rfl, upd_same, T.clHC, T.nLa, rfl, q, T.C, dq2, fs2, _, rfl, hq2, T.clC, T.nS, m2, _, rfl, p, T.HC, dx, _, rfl, upd_same, T.clHC, T.nSk, by show 6 < 1000; decide, ?_⟩
      rw [upd_upd]
      have er : ∀ H', (∀ q o, q ≠ p → H q = some o → H' q = some o) → HouseAt K T.C T.HC H' p h → Q .non H' := er
      refine er _ (o3.trans ((Off.of s34).trans Off.set)) (Mk_house (q := q) upd_same (rg.off (Ne.symm np) (kt_ins hp4) Off.set))
end
end K52

namespace K52
open PySem L2 Wm TL Dv Rm Lo
section
variable {P : Program} {w : World} {K : PySem.W.Frag} {mg : Str → Option Value} {base : Heap}
theorem HouseAt.keep {C HC : Addr} {H H' : Hp} {p : Addr} {h : Hs} (x : HouseAt K C HC H p h) (s : Same H H') : HouseAt K C HC H' p h := by
  obtain ⟨dx, fs, q, hp, l1, l2, l3, l4, l5, l6, l7, l8, r⟩ := x
  obtain ⟨d2, fs2, y, hq, m1, m2, m3, m4, t⟩ := r
  exact ⟨dx, fs, q, s _ _ hp, l1, l2, l3, l4, l5, l6, l7, l8, d2, fs2, y, s _ _ hq, m1, m2, m3, m4, t.k (Kt.same s)⟩
theorem RingAt.keep {C : Addr} {H H' : Hp} {q : Addr} {l : List Bool} (r : RingAt K C H q l) (s : Same H H') : RingAt K C H' q l := by
  obtain ⟨d2, fs2, y, hq, m1, m2, m3, m4, t⟩ := r
  exact ⟨d2, fs2, y, s _ _ hq, m1, m2, m3, m4, t.k (Kt.same s)⟩
theorem ok_heq (T : Txt K mg) : FnOk P w K mg base CX0 1 T.a_heq T.d_heq ["self", "other"] (sp_heq K T.C T.HC) := by
  refine T.F_heq.ok sc_heq (fun vs H Q E h => ?_) (fun cdv A outer s H vs Q E hr h => ?_)
  · obtain ⟨p, p2, h, h2, rfl, _⟩ := h
    rfl
  · obtain ⟨p, p2, h, h2, rfl, a, b, k⟩ := h
    obtain ⟨dx, fs, q, hp, l1, l2, l3, l4, l5, l6, l7, l8, _⟩ := a
    obtain ⟨dx', fs', q', hp', m1, m2, m3, m4, m5, m6, m7, m8, _⟩ := b
    refine ⟨_, (pss_one (ps_ret (pe_and (pe_callB call_isi (by rfl) T.z_isinstance (by decide +kernel) (pa_cons (pv 1) (pa_cons (pe_glob (v := V.ref T.HC) rfl T.gHC rfl) pa_nil))) (pe_and (pe_cmpR op_eq (pe_fld (pv 0) rfl) (pe_fld (pv 1) rfl) (nomark _)) (pe_and (pe_cmpR op_eq (pe_fld (pv 0) rfl) (pe_fld (pv 1) rfl) (nomark _)) (pe_and (pe_cmpR op_eq (pe_fld (pv 0) rfl) (pe_fld (pv 1) rfl) (nomark _)) (pe_and (pe_cmpR op_eq (pe_fld (pv 0) rfl) (pe_fld (pv 1) rfl) (nomark _)) (pe_one (pe_cmpR op_eq (pe_fld (pv 0) rfl) (pe_fld (pv 1) rfl) (nomark _)))))))))), ?_⟩
    refine ⟨_, rfl, _, _, _, _, true, rfl, .own T.HC, .base (.ins hp' T.clHC T.isi.ca T.isi.cn T.isi.ct T.isi.cm), T.kS, true, rfl, iteT ?_⟩
    unfold eqH at k
    refine ⟨_, rfl, p, T.HC, dx, fs, _, rfl, hp, T.clHC, T.nBo, l1, _, rfl, p2, T.HC, dx', fs', _, rfl, hp', T.clHC, T.nBo, m1, rfl, _, rfl, ?_⟩
    cases c1 : decide (V.str (numS h.ds) = V.str (numS h2.ds)) with
    | false => rw [c1] at k; exact iteF k
    | true =>
    rw [c1] at k
    refine iteT ⟨_, rfl, p, T.HC, dx, fs, _, rfl, hp, T.clHC, T.nRi, l2, _, rfl, p2, T.HC, dx', fs', _, rfl, hp', T.clHC, T.nRi, m2, rfl, _, rfl, ?_⟩
    cases c2 : decide (V.str (rgS h.l) = V.str (rgS h2.l)) with
    | false => rw [c2] at k; exact iteF k
    | true =>
    rw [c2] at k
    refine iteT ⟨_, rfl, p, T.HC, dx, fs, _, rfl, hp, T.clHC, T.nMa, l3, _, rfl, p2, T.HC, dx', fs', _, rfl, hp', T.clHC, T.nMa, m3, rfl, _, rfl, ?_⟩
    cases c3 : decide (V.int h.m = V.int h2.m) with
    | false => rw [c3] at k; exact iteF k
    | true =>
    rw [c3] at k
    refine iteT ⟨_, rfl, p, T.HC, dx, fs, _, rfl, hp, T.clHC, T.nRo, l4, _, rfl, p2, T.HC, dx', fs', _, rfl, hp', T.clHC, T.nRo, m4, rfl, _, rfl, ?_⟩
    cases c4 : decide (V.int h.r = V.int h2.r) with
    | false => rw [c4] at k; exact iteF k
    | true =>
    rw [c4] at k
    exact iteT ⟨_, rfl, p, T.HC, dx, fs, _, rfl, hp, T.clHC, T.nNe, l5, _, rfl, p2, T.HC, dx', fs', _, rfl, hp', T.clHC, T.nNe, m5, rfl, k⟩
theorem ok_is_silent (T : Txt K mg) : FnR P w K mg base (L2.CX P w) 6 T.a_is_silent (fun vs H Q E => ∃ ws rest, vs = ws ++ rest ∧ ws.length = ["self"].length ∧ rest.length ≤ sizeLine ∧ ∀ p, H p = Option.none → sp_is_silent K T.C T.HC T.CF (ws ++ [V.ref p]) (upd H p (.tup rest)) Q E) := by
  obtain ⟨oc, od, kV, doc, pm, an, cdv, ct, osl, e, lk, hcd⟩ := T.F_is_silent.ex
  rw [e] at lk
  refine StX.fn_star (k := 5) (ps := ["self"]) lk hcd sc_is_silent StX.cxUp (StX.bind_star1 (B := fun us => bindArgs (PySem.W.fnOf "is_silent" "House.is_silent" (defArgs s_is_silent) (defBody s_is_silent) (defScope s_is_silent) .none kV doc pm an cdv ct) ⟨us, []⟩) (p1 := "self") (pv := "faults") (fun _ => by with_unfolding_all rfl) (fun _ _ _ => by with_unfolding_all rfl)) (fun A outer s H vs Q E hr h => ?_)
  obtain ⟨p, q, h, rfl, a, hl, alt⟩ := h
  obtain ⟨dx, fs2, q2, hp, l1, l2, l3, l4, l5, l6, l7, l8, r⟩ := id a
  obtain ⟨dx3, fs3, y3, hq3, m1, m2, m3, m4, t3⟩ := id r
  refine ⟨_, (pss_one (ps_ret (pe_cmpR op_lt (pe_callB call_len_seq (by rfl) T.z_len PySem.boot_len (pa_cons (MS.pe_methS (pe_fld (pv 0) rfl) T.clC T.m_reached (ok_reached T) (hr.mono (by decide)) T.b_reached (fun σ => passAt (takes_of rfl rfl rfl rfl) σ) (by exact (pa_cons (pv 1) pa_nil))) pa_nil)) (pe_fld (pv 0) rfl) (nomark _)))), ?_⟩
  refine ⟨_, rfl, p, T.HC, dx, fs2, _, rfl, hp, T.clHC, T.nLa, l6, q2, dx3, fs3, rfl, hq3, no_meth "reached" (by decide +kernel) (by decide +kernel) (by decide +kernel) m4, _, rfl, q2, q, h.l, rfl, r, hl, ?_⟩
  rcases alt with ⟨fs, hf, fo, k⟩ | ⟨x, hM, er⟩
  · refine .inl ⟨fs, hf, fo, fun H' u s1 hu0 hu => ?_⟩
    refine ⟨u, _, rfl, .inr (SqT.of hu), _, rfl, p, T.HC, dx, fs2, _, rfl, s1 _ _ hp, T.clHC, T.nNe, l5, _, _, rfl, rfl, ?_⟩
    have e : decide ((((nV (heardL h.l (opn h.l fs))).length : Nat) : Int) < ((h.n : Nat) : Int)) = sil h.l h.n fs := by
      unfold sil nV
      rw [List.length_map]
      exact decide_eq_decide.mpr (by omega)
    show Q (.bl (decide ((((nV (heardL h.l (opn h.l fs))).length : Nat) : Int) < ((h.n : Nat) : Int)))) H'
    rw [e]
    exact k _ s1
  · exact .inr ⟨x, hM, er⟩
end
end K52

namespace K52
open PySem L2 Wm TL Dv Rm Lo
section
variable {P : Program} {w : World} {K : PySem.W.Frag} {mg : Str → Option Value} {base : Heap}
/-- a comprehension that picks and makes data -/
theorem lc_sel {α : Type} {J : It} {n : Nat} {G : Hp → Prop} {xs : List V} {fts : List α} {dat out : α → PyData} (w : Walk J n G (YAt xs)) {g : TG} {tt : TT} {te : TE} {vs : List Nat} {σ : L2.St} {H1 : Hp} {D : Addr} {Qd : Hp → Prop} (P : α → Bool)
    (hx : Dts K H1 xs (fts.map dat)) (ln : n = fts.length) (hD : H1 D = none) (hn : n ≤ 1000) (hG : ∀ H', Same H1 H' → G H')
    (hs : ∀ (i : Nat) x f H', xs[i]? = some x → fts[i]? = some f → Dt K H1 x (dat f) → Same H1 H' → ∀ (Q : V → Hp → Prop) (Z : Hp → Prop), (P f = true → ∀ y H3, Same H' H3 → Dt K H3 y (out f) → Q y H3) → (P f = false → ∀ H3, Same H' H3 → Z H3) → g x (wipe σ vs) H' fun σ2 H2 => wipe σ2 vs = wipe σ vs ∧ tt σ2 H2 fun b H3 => if b = true then te σ2 H3 Q else Z H3)
    (hd : ∀ H ys, Same H1 H → H D = some (.lst ys) → Dts K H ys ((fts.filter P).map out) → Qd H) :
    ∃ W : Nat → Nat → Hp → Prop, (∃ m, W 0 m (upd H1 D (.lst []))) ∧ ∀ i m H, W i m H →
      (J.stop i H ∧ Qd H) ∨ (J.go i H ∧ ∃ Nx : Hp → Prop, (∀ H', Nx H' → ∃ m', m' < m ∧ W (i + 1) m' H') ∧ ∀ x H', J.yld i H x H' → g x (wipe σ vs) H' fun σ2 H2 => wipe σ2 vs = wipe σ vs ∧ tt σ2 H2 fun b H3 =>
        if b = true then te σ2 H3 fun y H4 => ∃ acc, H4 D = some (.lst acc) ∧ acc.length < sizeLine ∧ Nx (upd H4 D (.lst (acc ++ [y]))) else Nx H3) := by
  refine lc_it (tt := tt) w (fun i H => Same H1 H ∧ ∃ ys : List V, ys.length ≤ i ∧ H D = some (.lst ys) ∧ Dts K H ys (((fts.take i).filter P).map out)) ⟨same_new hD, [], Nat.le_refl _, upd_same, .nil⟩ (fun i H _ h => hG H h.1) (fun i x H H' hi hP hY => ?_) (fun H hP => ?_)
  · obtain ⟨sm, ys, el, hy, he⟩ := hP
    obtain ⟨rfl, hxi⟩ := hY
    obtain ⟨d, hdi, dx⟩ := hx.at hxi
    rw [List.getElem?_map] at hdi
    obtain ⟨f, hf, rfl⟩ := Option.map_eq_some_iff.mp hdi
    have et : fts.take (i + 1) = fts.take i ++ [f] := by rw [List.take_add_one, hf]; rfl
    refine hs i x f H' hxi hf dx sm _ _ (fun c y H4 s4 dy => ?_) (fun c H4 s4 => ?_)
    · have k5 : Kt K H4 (upd H4 D (.lst (ys ++ [y]))) := Kt.lst (s4 _ _ hy)
      refine ⟨ys, s4 _ _ hy, small1000 (by omega), same_mut (sm.trans s4) hD, ys ++ [y], by rw [List.length_append, List.length_singleton]; omega, upd_same, ?_⟩
      rw [et, List.filter_append, List.map_append, List.filter_cons_of_pos c]
      exact ((he.k (Kt.same s4)).k k5).snoc (dy.k k5)
    · refine ⟨sm.trans s4, ys, by omega, s4 _ _ hy, ?_⟩
      rw [et, List.filter_append, List.filter_cons_of_neg (by rw [c]; exact Bool.false_ne_true), List.filter_nil, List.append_nil]
      exact he.k (Kt.same s4)
  · obtain ⟨sm, ys, el, hy, he⟩ := hP
    rw [ln, List.take_length] at he
    exact hd H ys sm hy he
theorem allF_le {n : Nat} (h : n ≤ 10) : (allF (n + 1)).length ≤ 22 := by rw [allF_len]; omega
theorem hn_meth (m : Str) {fs : List (Str × V)} (l : ∀ m : Str, m ≠ "box" → m ≠ "ring" → m ≠ "mark" → m ≠ "rows" → m ≠ "need" → m ≠ "layout" → m ≠ "seekers" → fs.lookup m = none) (d : (["box", "ring", "mark", "rows", "need", "layout", "seekers"] : List Str).all (fun x => !decide (m = x)) = true) : fs.lookup m = none := by
  simp only [List.all_cons, List.all_nil, Bool.and_true, Bool.and_eq_true, Bool.not_eq_true', decide_eq_false_iff_not] at d
  obtain ⟨a, b, c, e, f, g, h⟩ := d
  exact l m a b c e f g h
/-- a star's tuple of faults -/
theorem star_fts {H : Hp} {xs : List V} {fs : List Ft} (h : Dts K H xs (fs.map ftD)) {u : Addr} (hu : H u = none) : FtsAt K (upd H u (.tup xs)) u fs := ⟨true, xs, SqT.of upd_same, h.k (Kt.new hu)⟩
end
end K52

namespace K52
open PySem L2 Wm TL Dv Rm Lo
section
variable {P : Program} {w : World} {K : PySem.W.Frag} {mg : Str → Option Value} {base : Heap}
theorem eqv_ftd (f g : Ft) : PyData.eqv (ftD f) (ftD g) = decide (f = g) := by
  obtain ⟨a, x⟩ := f
  obtain ⟨b, y⟩ := g
  have e1 : (("cut" : Str) == ("short" : Str)) = false := by decide +kernel
  have e2 : (("short" : Str) == ("cut" : Str)) = false := by decide +kernel
  by_cases c : x = y
  · subst c
    cases a <;> cases b <;> simp [ftD, wdS, PyData.eqv, PyData.eqvAll, e1, e2]
  · have c2 : ¬ ((x : Nat) : Int) = ((y : Nat) : Int) := fun z => c (by omega)
    cases a <;> cases b <;> simp [ftD, wdS, PyData.eqv, PyData.eqvAll, e1, e2, c, c2]
theorem fine_ft (f : Ft) {n : Nat} : Fine (n + 1) (ftD f) := fine_tup fun d m => by
  rcases List.mem_cons.mp m with rfl | m
  · cases f.1
    all_goals exact fine_str (by decide +kernel)
  · rw [List.mem_singleton.mp m]
    exact fine_int _
theorem any_ft (ss : List Ft) (f : Ft) : (ss.map ftD).any (fun z => PyData.eqv z (ftD f)) = decide (f ∈ ss) := by
  induction ss with
  | nil => rfl
  | cons s ss ih =>
    rw [List.map_cons, List.any_cons, ih, eqv_ftd]
    by_cases c : s = f
    · subst c
      simp
    · have c2 : ¬ f = s := fun e => c e.symm
      simp [c, c2]
theorem lay_fts (ss : List Ft) : PyData.canLayAll0 (ss.map ftD) = true := by
  have q := (fine_tup (n := 1) (ds := ss.map ftD) fun d m => by
    obtain ⟨f, _, rfl⟩ := List.mem_map.mp m
    exact fine_ft f).1
  simpa only [PyData.canLay0] using q
theorem cut_from (xs : List V) (z : Nat) (h : z ≤ xs.length) : cutV xs (some (z : Int)) none = xs.drop z := by
  unfold cutV
  rw [HT.sIx_nat, HT.sIx_none, Nat.min_eq_left h, List.take_of_length_le (by rw [List.length_drop]; omega)]
end
end K52

namespace K52
open PySem L2 Wm TL Dv Rm Lo
section
variable {P : Program} {w : World} {K : PySem.W.Frag} {mg : Str → Option Value} {base : Heap}
theorem put_keys (k : Str) (v : V) : ∀ fs : List (Str × V), ∀ x ∈ (putF k v fs).map (·.1), x = k ∨ x ∈ fs.map (·.1)
  | [], x, m => .inl (by simpa [putF] using m)
  | (j, u) :: r, x, m => by
    unfold putF at m
    split at m
    · rename_i e
      exact .inr (show x ∈ j :: r.map (·.1) from m)
    · rcases List.mem_cons.mp (show x ∈ j :: (putF k v r).map (·.1) from m) with e2 | m
      · exact .inr (by rw [e2]; exact List.mem_cons_self)
      · exact (put_keys k v r x m).imp id (List.mem_cons_of_mem _)
theorem put_nodup (k : Str) (v : V) : ∀ fs : List (Str × V), (fs.map (·.1)).Nodup → ((putF k v fs).map (·.1)).Nodup
  | [], _ => by simp [putF]
  | (j, u) :: r, nd => by
    obtain ⟨n1, n2⟩ := List.nodup_cons.mp (show (j :: r.map (·.1)).Nodup from nd)
    unfold putF
    split
    · rename_i e
      exact List.nodup_cons.mpr ⟨n1, n2⟩
    · rename_i e
      refine List.nodup_cons.mpr ⟨fun m => ?_, put_nodup k v r n2⟩
      rcases put_keys k v r j m with e2 | m
      · exact e e2
      · exact n1 m
theorem KeysOk.put {k : Str} {v : V} {fs : List (Str × V)} (h : KeysOk fs) (kp : k ∈ panelF) : KeysOk (putF k v fs) := ⟨put_nodup k v fs h.1, fun x m => (put_keys k v fs x m).elim (fun e => e ▸ kp) (h.2 x)⟩
theorem KeysOk.len {fs : List (Str × V)} (h : KeysOk fs) : fs.length ≤ 5 := by
  have := List.Nodup.length_le_of_subset h.1 (fun x m => h.2 x m)
  rw [List.length_map] at this
  exact this
theorem SqT.k {H H' : Hp} {a : Addr} {xs : List V} (h : SqT K H a xs) (k : Kt K H H') : SqT K H' a xs := k _ _ h
theorem Kt.off {H H' : Hp} {p C dx : Addr} {fs : List (Str × V)} (h : H p = some (.ins C dx fs)) (o : Off p H H') : Kt K H H' := fun a xs q => by
  have n : ∀ {u : HO}, H a = some u → (∀ C d f, u ≠ .ins C d f) → a ≠ p := fun e k z => by
    rw [z, h] at e
    exact k _ _ _ (Option.some.inj e).symm
  rcases q with (q | ⟨ob, q⟩) | q
  · exact .inl (.inl (o _ _ (n q fun _ _ _ z => by cases z) q))
  · exact .inl (.inr ⟨ob, o _ _ (n q fun _ _ _ z => by cases z) q⟩)
  · exact .inr q
theorem HouseAt.off {C HC : Addr} {H H' : Hp} {hh p : Addr} {h : Hs} (x : HouseAt K C HC H hh h) (n1 : hh ≠ p) (n2 : ∀ l q, RingAt K C H q l → q ≠ p) (k : Kt K H H') (o : Off p H H') : HouseAt K C HC H' hh h := by
  obtain ⟨dx, fs, q, hp, l1, l2, l3, l4, l5, l6, l7, l8, r⟩ := x
  exact ⟨dx, fs, q, o _ _ n1 hp, l1, l2, l3, l4, l5, l6, l7, l8, r.off (n2 _ _ r) k o⟩
/-- a panel is no house and no ring -/
theorem PRaw.ne {C HC PC : Addr} {H : Hp} {p dx : Addr} {fs : List (Str × V)} (hp : H p = some (.ins PC dx fs)) (e : ∀ m : Str, m ∉ panelF → fs.lookup m = none) : (∀ hh h, HouseAt K C HC H hh h → hh ≠ p) ∧ ∀ l q, RingAt K C H q l → q ≠ p := by
  refine ⟨fun hh h x z => ?_, fun l q x z => ?_⟩
  · obtain ⟨d, f, q, h1, l1, _⟩ := x
    rw [z, hp] at h1
    cases h1
    rw [e "box" (by decide +kernel)] at l1
    cases l1
  · obtain ⟨d, f, y, h1, l1, _⟩ := x
    rw [z, hp] at h1
    cases h1
    rw [e "text" (by decide +kernel)] at l1
    cases l1
theorem PRaw.house {C HC PC : Addr} {H H' : Hp} {p hh dx : Addr} {fs : List (Str × V)} {h : Hs} (hp : H p = some (.ins PC dx fs)) (e : ∀ m : Str, m ∉ panelF → fs.lookup m = none) (x : HouseAt K C HC H hh h) (o : Off p H H') : HouseAt K C HC H' hh h :=
  let z := PRaw.ne (K := K) (C := C) (HC := HC) hp e
  x.off (z.1 _ _ x) z.2 (Kt.off hp o) o
theorem PRaw.ks {C HC PC : Addr} {H H' : Hp} {p : Addr} {h : Hs} {g : Str → Option V} (x : PRaw K C HC PC H p h g) (s : Same H H') : PRaw K C HC PC H' p h g := by
  obtain ⟨dx, fs, hh, a, b, c, d, e, f⟩ := x
  exact ⟨dx, fs, hh, s _ _ a, b, c, d, e.keep s, f⟩
theorem PanelAt.ks {C HC PC : Addr} {H H' : Hp} {p : Addr} {h : Hs} {s : Ps} (x : PanelAt K C HC PC H p h s) (m : Same H H') : PanelAt K C HC PC H' p h s := by
  obtain ⟨g, u, v, w, r, a1, a2, a3, a4, a5, a6, a7, a8, a9⟩ := x
  exact ⟨g, u, v, w, r.ks m, a1, a2, a3, a4, a5.k (Kt.same m), sameT m a6, sameT m a7, a8, a9⟩
/-- a field of a panel is set -/
theorem PRaw.set {C HC PC : Addr} {H : Hp} {p dx : Addr} {fs : List (Str × V)} {h : Hs} {g : Str → Option V} {hh : Addr} {k : Str} {v : V} (hp : H p = some (.ins PC dx fs)) (hl : KeysOk fs) (c : ∀ m : Str, fs.lookup m = g m) (d : g "house" = some (.ref hh)) (e : HouseAt K C HC H hh h) (f : ∀ m : Str, m ∉ panelF → g m = none)
    (kp : k ∈ panelF) (kh : k ≠ "house") : PRaw K C HC PC (upd H p (.ins PC dx (putF k v fs))) p h (setG g k v) := by
  have o : Off p H (upd H p (.ins PC dx (putF k v fs))) := Off.set
  refine ⟨dx, _, hh, upd_same, hl.put kp, fun m => ?_, ?_, PRaw.house hp (fun m n => by rw [c m]; exact f m n) e o, fun m n => ?_⟩
  · rw [lookup_putF, c m]
    rfl
  · unfold setG
    rw [if_neg (Ne.symm kh)]
    exact d
  · unfold setG
    rw [if_neg (fun z => n (by rw [z]; exact kp))]
    exact f m n
theorem norm_norm (l : List Bool) (gs : List Ft) : norm l (norm l gs) = norm l gs := by
  unfold norm
  refine List.filter_congr fun f m => decide_eq_decide.mpr ?_
  rw [List.mem_filter]
  exact ⟨fun z => of_decide_eq_true z.2, fun z => ⟨m, decide_eq_true z⟩⟩
theorem norm_congr {l : List Bool} {gs fs : List Ft} (h : ∀ f, f ∈ gs ↔ f ∈ fs) : norm l gs = norm l fs := List.filter_congr fun f _ => decide_eq_decide.mpr (h f)
theorem norm_mem {l : List Bool} {gs : List Ft} {f : Ft} : f ∈ norm l gs ↔ f.2 ≤ l.length ∧ f ∈ gs := by
  unfold norm
  rw [List.mem_filter, allF_mem]
  constructor
  · rintro ⟨a, b⟩
    exact ⟨Nat.le_of_lt_succ a, of_decide_eq_true b⟩
  · rintro ⟨a, b⟩
    exact ⟨Nat.lt_succ_of_le a, decide_eq_true b⟩
theorem norm_len {l : List Bool} {gs : List Ft} (h : l.length ≤ 10) : (norm l gs).length ≤ 22 := Nat.le_trans (List.length_filter_le _ _) (by rw [allF_len]; omega)
theorem norm_ok {l : List Bool} {gs : List Ft} (h : l.length ≤ 10) : FOk l.length (norm l gs) := ⟨Nat.le_trans (norm_len h) (by decide), fun f m => (norm_mem.mp m).1⟩
theorem norm_nil (l : List Bool) : norm l [] = [] := List.filter_eq_nil_iff.mpr fun f _ => by simp
/-- the same faults, the same seekers heard -/
theorem heard_congr {l : List Bool} {fs gs : List Ft} (h : ∀ f, f ∈ fs ↔ f ∈ gs) : heardL l (opn l fs) = heardL l (opn l gs) := by
  have e : opn l fs = opn l gs := funext fun k => by
    cases c : opn l gs k with
    | true => exact opn_sub (fun f m => (h f).mp m) k c
    | false =>
      cases d : opn l fs k with
      | false => rfl
      | true =>
        have := opn_sub (fun f m => (h f).mpr m) k d
        rw [c] at this
        cases this
  rw [e]
theorem heard_norm {l : List Bool} {gs : List Ft} (h : ∀ f ∈ gs, f.2 ≤ l.length) : heardL l (opn l (norm l gs)) = heardL l (opn l gs) := heard_congr fun f => by
  rw [norm_mem]
  exact ⟨fun z => z.2, fun z => ⟨h f z, z⟩⟩
end
end K52

namespace K52
open PySem L2 Wm TL Dv Rm Lo
section
variable {P : Program} {w : World} {K : PySem.W.Frag} {mg : Str → Option Value} {base : Heap}
theorem pn_meth (m : Str) {fs : List (Str × V)} {g : Str → Option V} (c : ∀ m : Str, fs.lookup m = g m) (no : ∀ m : Str, m ∉ panelF → g m = none) (d : panelF.all (fun x => !decide (m = x)) = true) : fs.lookup m = none := by
  rw [c m]
  refine no m fun z => ?_
  have := List.all_eq_true.mp d m z
  simp at this
theorem fts_in {H : Hp} {q : Addr} {gs : List Ft} (h : FtsAt K H q gs) : ∃ t : Bool, Dp K H (.ref q) (if t then .tuple (gs.map ftD) else .list (gs.map ftD)) := by
  obtain ⟨t, xs, his, d⟩ := h
  cases t with
  | true => exact ⟨true, .tup his d.toDp⟩
  | false => exact ⟨false, .lst his d.toDp⟩
theorem ok_set_faults (T : Txt K mg) : FnOk P w K mg base CX0 6 T.a_set_faults T.d_set_faults ["self", "faults"] (sp_set_faults K T.C T.HC T.PC) := by
  refine T.F_set_faults.ok sc_set_faults (fun vs H Q E h => ?_) (fun cdv A outer s H vs Q E hr h => ?_)
  · obtain ⟨p, q, h, g, gs, rfl, _⟩ := h
    rfl
  · obtain ⟨p, q, h, g, gs, rfl, hr0, hl, hF, fok, kk⟩ := h
    obtain ⟨dx, fs, hh, hp, lf, lk, gh, hA, no⟩ := id hr0
    obtain ⟨dh, fh, rq, hhp, l1, l2, l3, l4, l5, l6, l7, l8, rr⟩ := id hA
    obtain ⟨dq, fq, yq, hq, m1, m2, m3, m4, m5⟩ := id rr
    refine ⟨_, (pss_cons (ps_fld (pv 0) (pe_callTy call_tuple_of (by rfl) T.z_tuple (by decide +kernel) (pa_cons (pe_lc (own := [("fault", 2)]) (g := gName 2) rfl sc_set_faults.nd (pi_tup (pe_meth0 (pe_fld (pe_fld (pv 0) rfl) rfl) T.clC T.m_all_faults (ok_all_faults T) (hr.mono (by decide)) T.b_all_faults .nil pass0)) (blkOk_by (own := [("fault", 2)]) (N := nm_set_faults) (sc := (defScope s_set_faults)) (by decide +kernel)) (fun _ _ _ _ _ => pg_name (i := 2) sc_set_faults.nd rfl (Or.inl rfl)) (fun _ _ _ _ _ => (pts_one (pt_cmpR (show OpR _ _ (Ind.rInS K) from Ind.op_inS (Ind.room65 hr)) (pv 2) (pv 1) rfl))) (fun _ _ _ _ _ => (pv 2))) pa_nil)) rfl)
      (pss_one (ps_fld (pv 0) (pe_meth (pe_fld (pe_fld (pv 0) rfl) rfl) T.clC T.m_reached (ok_reached T) (hr.mono (by decide)) T.b_reached .nil Mk1.passF (pa_cons (pe_fld (pv 0) rfl) pa_nil)) rfl))), ?_⟩
    refine ⟨_, rfl, p, T.PC, dx, fs, _, rfl, hp, T.clPC, T.nHo, (lk _).trans gh, hh, T.HC, dh, fh, _, rfl, hhp, T.clHC, T.nLa, l6, rq, dq, fq, rfl, hq, no_meth "all_faults" (by decide +kernel) (by decide +kernel) (by decide +kernel) m4, rq, h.l, rfl, rr, hl, fun H1 y s1 ty => ?_⟩
    obtain ⟨a1, xs, rfl, hS, hds⟩ := ty.inv
    have lx := hds.len
    rw [List.length_map] at lx
    have l22 := allF_le hl
    refine ⟨a1, rfl, ⟨_, hS⟩, fun D hD => ?_⟩
    refine lc_sel (K := K) walk_tup (fun f => decide (f ∈ gs)) (out := ftD) hds lx hD (by omega) (fun H' s => sameT s hS) (fun i x f H' hx hf dx sm Q2 Z q2 z0 => ?_) (fun H3 os s3 hos dos => ?_)
    · refine ⟨rfl, ?_⟩
      obtain ⟨t, dg⟩ := fts_in (hF.k (s1.trans sm))
      refine ⟨_, rfl, _, rfl, ftD f, gs.map ftD, t, (dx.k (Kt.same sm)).toDp, dg, (fine_ft f (n := 0)).1, Nat.le_trans (fine_ft f (n := 0)).2 (by decide), lay_fts _, ?_⟩
      rw [any_ft]
      refine ⟨_, rfl, ?_⟩
      cases c : decide (f ∈ gs) with
      | true => exact ⟨_, rfl, q2 c _ _ (Same.refl _) (dx.k (Kt.same sm))⟩
      | false => exact z0 c _ (Same.refl _)
    have dos : Dts K H3 os ((norm h.l gs).map ftD) := dos
    refine ⟨D, os, rfl, .inl ⟨SqL.of hos, fun u hu => ?_⟩⟩
    have s4 := (s1.trans s3).trans (same_new (o := .tup os) hu)
    have du : Dt K (upd H3 u (.tup os)) (.ref u) (.tuple ((norm h.l gs).map ftD)) := dt_tup upd_same (dos.k (Kt.new hu))
    generalize upd H3 u (.tup os) = H4 at *
    have hp4 := s4 _ _ hp
    refine ⟨_, rfl, p, T.PC, dx, fs, rfl, hp4, T.clPC, T.nFa, Nat.lt_of_le_of_lt lf.len (by decide), ?_⟩
    have r5 := PRaw.set (K := K) (v := .ref u) (k := "faults") hp4 lf lk gh (hA.keep s4) no (by decide +kernel) (by decide +kernel)
    have o5 : Off p H (upd H4 p (.ins T.PC dx (putF "faults" (.ref u) fs))) := (Off.of s4).trans Off.set
    have k5 : Kt K H4 (upd H4 p (.ins T.PC dx (putF "faults" (.ref u) fs))) := kt_ins hp4
    have du5 := du.k k5
    generalize upd H4 p (.ins T.PC dx (putF "faults" (.ref u) fs)) = H5 at *
    obtain ⟨dx5, fs5, hh5, hp5, lf5, lk5, gh5, hA5, no5⟩ := id r5
    obtain ⟨dh5, fh5, rq5, hhp5, l15, l25, l35, l45, l55, l65, l75, l85, rr5⟩ := id hA5
    obtain ⟨dq5, fq5, yq5, hq5, m15, m25, m35, m45, m55⟩ := id rr5
    obtain ⟨u', us, eu, hus, dus⟩ := du5.inv
    cases eu
    refine ⟨_, rfl, p, T.PC, dx5, fs5, _, rfl, hp5, T.clPC, T.nHo, (lk5 _).trans gh5, hh5, T.HC, dh5, fh5, _, rfl, hhp5, T.clHC, T.nLa, l65, rq5, dq5, fq5, rfl, hq5, no_meth "reached" (by decide +kernel) (by decide +kernel) (by decide +kernel) m45, _, rfl, p, T.PC, dx5, fs5, _, rfl, hp5, T.clPC, T.nFa, lk5 _, ?_⟩
    refine ⟨rq5, u, h.l, rfl, rr5, hl, .inl ⟨norm h.l gs, ⟨true, us, hus, dus⟩, norm_ok hl, fun H6 v s6 nv hv => ?_⟩⟩
    have hp6 := s6 _ _ hp5
    refine ⟨_, rfl, p, T.PC, dx5, fs5, rfl, hp6, T.clPC, T.nHe, Nat.lt_of_le_of_lt lf5.len (by decide), ?_⟩
    exact kk _ u v (o5.trans ((Off.of s6).trans Off.set)) (PRaw.set hp6 lf5 lk5 gh5 (hA5.keep s6) no5 (by decide +kernel) (by decide +kernel)) (du5.k ((Kt.same s6).trans (kt_ins hp6))) (kt_ins (K := K) hp6 _ _ (SqT.of hv))
theorem rep_zero (n : Nat) : (List.replicate n [V.int 0]).flatten = nV (List.replicate n 0) := by
  induction n with
  | zero => rfl
  | succ n ih =>
    rw [List.replicate_succ, List.flatten_cons, ih]
    rfl
theorem ok_reset (T : Txt K mg) : FnOk P w K mg base CX0 1 T.a_reset T.d_reset ["self"] (sp_reset K T.C T.HC T.PC) := by
  refine T.F_reset.ok sc_reset (fun vs H Q E h => ?_) (fun cdv A outer s H vs Q E hr h => ?_)
  · obtain ⟨p, h, g, rfl, _⟩ := h
    rfl
  · obtain ⟨p, h, g, rfl, hr0, hl, c1, kk⟩ := h
    obtain ⟨dx, fs, hh, hp, lf, lk, gh, hA, no⟩ := id hr0
    obtain ⟨dh, fh, rq, hhp, l1, l2, l3, l4, l5, l6, l7, l8, rr⟩ := id hA
    refine ⟨_, (pss_cons (ps_fld (pv 0) (pe_op Tu1.op_repB (pe_tup (pa_cons pe_int pa_nil)) (pe_fld (pe_fld (pv 0) rfl) rfl)) rfl)
      (pss_one (ps_fld (pv 0) pe_bl rfl))), ?_⟩
    refine ⟨small_len (by show 1 ≤ 100000; decide), fun t ht => ?_⟩
    have s1 := same_new (o := .tup [.int 0]) ht
    refine ⟨_, rfl, p, T.PC, dx, fs, _, rfl, s1 _ _ hp, T.clPC, T.nHo, (lk _).trans gh, hh, T.HC, dh, fh, _, rfl, s1 _ _ hhp, T.clHC, T.nSk, l7, ?_⟩
    have cl : h.l.count true ≤ h.l.length := List.count_le_length
    refine ⟨t, ((h.l.count true : Nat) : Int), [V.int 0], rfl, rfl, SqT.of upd_same, by simp, by omega, by omega, by show 1 ≤ 1000; decide, fun w H2 s2 hw => ?_⟩
    rw [Int.toNat_natCast, rep_zero] at hw
    have s12 := s1.trans s2
    have hp2 := s12 _ _ hp
    refine ⟨_, rfl, p, T.PC, dx, fs, rfl, hp2, T.clPC, T.nCo, Nat.lt_of_le_of_lt lf.len (by decide), ?_⟩
    have r5 := PRaw.set (K := K) (v := .ref w) (k := "counts") hp2 lf lk gh (hA.keep s12) no (by decide +kernel) (by decide +kernel)
    have o5 : Off p H (upd H2 p (.ins T.PC dx (putF "counts" (.ref w) fs))) := (Off.of s12).trans Off.set
    have hw5 : SqT K (upd H2 p (.ins T.PC dx (putF "counts" (.ref w) fs))) w (nV (List.replicate (h.l.count true) 0)) := kt_ins (K := K) hp2 _ _ hw
    generalize upd H2 p (.ins T.PC dx (putF "counts" (.ref w) fs)) = H5 at *
    obtain ⟨dx5, fs5, hh5, hp5, lf5, lk5, gh5, hA5, no5⟩ := id r5
    refine ⟨_, rfl, p, T.PC, dx5, fs5, rfl, hp5, T.clPC, T.nAl, Nat.lt_of_le_of_lt lf5.len (by decide), ?_⟩
    exact kk _ w (o5.trans Off.set) (PRaw.set hp5 lf5 lk5 gh5 hA5 no5 (by decide +kernel) (by decide +kernel)) (kt_ins (K := K) hp5 _ _ hw5)
end
end K52

namespace K52
open PySem L2 Wm TL Dv Rm Lo
section
variable {P : Program} {w : World} {K : PySem.W.Frag} {mg : Str → Option Value} {base : Heap}
theorem setG_ne {g : Str → Option V} {k m : Str} {v : V} (h : m ≠ k) : setG g k v m = g m := if_neg h
theorem setG_eq {g : Str → Option V} {k : Str} {v : V} : setG g k v k = some v := if_pos rfl
theorem fts_nil {H : Hp} {D : Addr} (h : H D = some (.lst [])) : FtsAt K H D [] := ⟨false, [], SqL.of h, .nil⟩
theorem ok_pinit (T : Txt K mg) : FnOk P w K mg base CX0 7 T.a_pinit T.d_pinit ["self", "house"] (sp_pinit K T.C T.HC T.PC) := by
  refine T.F_pinit.ok sc_pinit (fun vs H Q E h => ?_) (fun cdv A outer s H vs Q E hr h => ?_)
  · obtain ⟨p, hh, dx, h, rfl, _⟩ := h
    rfl
  · obtain ⟨p, hh, dx, h, rfl, hp, hA, ok, kk⟩ := h
    have hl := ok.ri.len
    have c1 : 1 ≤ h.l.count true := List.count_pos_iff.mpr ok.ri.has
    refine ⟨_, (pss_cons (ps_fld (pv 0) (pv 1) rfl)
      (pss_cons (ps_expr (pe_meth (pv 0) T.clPC T.m_set_faults (ok_set_faults T) (hr.mono (by decide)) T.b_set_faults .nil pass0 (pa_cons (pe_lst pa_nil) pa_nil)))
      (pss_one (ps_expr (pe_meth0 (pv 0) T.clPC T.m_reset (ok_reset T) (hr.mono (by decide)) T.b_reset .nil pass0))))), ?_⟩
    refine ⟨_, rfl, _, rfl, p, T.PC, dx, [], rfl, hp, T.clPC, T.nHo, by show 0 < 1000; decide, ?_⟩
    have o1 : Off p H (upd H p (.ins T.PC dx (putF "house" (.ref hh) []))) := Off.set
    have hp1 : upd H p (.ins T.PC dx (putF "house" (.ref hh) [])) p = some (.ins T.PC dx (putF "house" (.ref hh) [])) := upd_same
    have r1 : PRaw K T.C T.HC T.PC (upd H p (.ins T.PC dx (putF "house" (.ref hh) []))) p h (setG (fun _ => none) "house" (.ref hh)) := by
      refine ⟨dx, _, hh, hp1, KeysOk.put ⟨List.nodup_nil, fun k m => absurd m (List.not_mem_nil)⟩ (by decide +kernel), fun m => by rw [lookup_putF]; rfl, setG_eq, PRaw.house hp (fun m _ => rfl) hA o1, fun m n => ?_⟩
      rw [setG_ne fun z => n (by rw [z]; decide +kernel)]
    generalize upd H p (.ins T.PC dx (putF "house" (.ref hh) [])) = H1 at *
    obtain ⟨dx1, fs1, hh1, hp1', lf1, lk1, gh1, hA1, no1⟩ := id r1
    refine ⟨_, rfl, p, dx1, fs1, rfl, hp1', pn_meth "set_faults" lk1 no1 (by decide +kernel), small_len (by show 0 ≤ 100000; decide), fun D hD => ?_⟩
    have s2 := same_new (o := .lst []) hD
    refine ⟨p, D, h, _, [], rfl, r1.ks s2, hl, fts_nil upd_same, ⟨Nat.zero_le _, fun f m => absurd m (List.not_mem_nil)⟩, fun H3 u v off r3 du sv => ?_⟩
    obtain ⟨dx3, fs3, hh3, hp3, lf3, lk3, gh3, hA3, no3⟩ := id r3
    refine ⟨_, rfl, p, dx3, fs3, rfl, hp3, pn_meth "reset" lk3 no3 (by decide +kernel), p, h, _, rfl, r3, hl, c1, fun H4 w off4 r4 hw => ?_⟩
    have kt := Kt.off (K := K) hp3 off4
    rw [norm_nil] at du sv
    refine kk H4 (((o1.trans (Off.of s2)).trans off).trans off4) ⟨_, u, v, w, r4, ?_, ?_, ?_, setG_eq, du.k kt, kt _ _ sv, hw, List.length_replicate, norm_nil _⟩
    · rw [setG_ne (by decide +kernel), setG_ne (by decide +kernel), setG_ne (by decide +kernel), setG_eq]
    · rw [setG_ne (by decide +kernel), setG_ne (by decide +kernel), setG_eq]
    · rw [setG_ne (by decide +kernel), setG_eq]
end
end K52

namespace K52
open PySem L2 Wm TL Dv Rm Lo
section
variable {P : Program} {w : World} {K : PySem.W.Frag} {mg : Str → Option Value} {base : Heap}
theorem PanelAt.fok {C HC PC : Addr} {H : Hp} {p : Addr} {h : Hs} {s : Ps} (x : PanelAt K C HC PC H p h s) (hl : h.l.length ≤ 10) : s.fs.length ≤ 22 ∧ ∀ f ∈ s.fs, f.2 ≤ h.l.length := by
  obtain ⟨g, u, v, w, r, a1, a2, a3, a4, a5, a6, a7, a8, a9⟩ := x
  rw [← a9]
  exact ⟨norm_len hl, fun f m => (norm_mem.mp m).1⟩
theorem ok_put_fault (T : Txt K mg) : FnOk P w K mg base (L2.CX P w) 7 T.a_put_fault T.d_put_fault ["self", "fault"] (sp_put_fault K T.C T.HC T.PC T.CF) := by
  refine T.F_put_fault.okX sc_put_fault (fun vs H Q E h => ?_) (fun cdv A outer s H vs Q E hr h => ?_)
  · obtain ⟨p, x, h, s, rfl, _⟩ := h
    rfl
  · obtain ⟨p, x, h, st, rfl, hP, ok, alt⟩ := h
    have hl := ok.ri.len
    obtain ⟨fl, fm⟩ := hP.fok hl
    obtain ⟨g, u, v, w, hr0, a1, a2, a3, a4, a5, a6, a7, a8, a9⟩ := id hP
    obtain ⟨dx, fs, hh, hp, lf, lk, gh, hA, no⟩ := id hr0
    obtain ⟨dh, fh, rq, hhp, l1, l2, l3, l4, l5, l6, l7, l8, rr⟩ := id hA
    obtain ⟨dq, fq, yq, hq, m1, m2, m3, m4, m5⟩ := id rr
    refine ⟨_, (pss_cons (ps_expr (MS.pe_methS (pe_fld (pe_fld (pv 0) rfl) rfl) T.clC T.m_check_fault (ok_check_fault T) (hr.mono (by decide)) T.b_check_fault (fun σ => passAt (takes_of rfl rfl rfl rfl) σ) (by exact (pa_cons (pv 1) pa_nil))))
      (pss_one (ps_expr (pe_meth (pv 0) T.clPC T.m_set_faults (ok_set_faults T) (hr.mono (by decide)) T.b_set_faults .nil pass0 (pa_cons (pe_lst (StX.pa_star (pe_fld (pv 0) rfl) (pa_cons (pv 1) pa_nil))) pa_nil))))), ?_⟩
    refine ⟨_, rfl, p, T.PC, dx, fs, _, rfl, hp, T.clPC, T.nHo, (lk _).trans gh, hh, T.HC, dh, fh, _, rfl, hhp, T.clHC, T.nLa, l6, rq, dq, fq, rfl, hq, no_meth "check_fault" (by decide +kernel) (by decide +kernel) (by decide +kernel) m4, _, rfl, rq, x, h.l, rfl, rr, hl, ?_⟩
    rcases alt with ⟨f, df, hf, kk⟩ | ⟨odd, er⟩
    · refine .inl ⟨f, df, hf, fun H1 s1 => ?_⟩
      have hp1 := s1 _ _ hp
      obtain ⟨u', us, eu, hus, dus⟩ := (a5.k (Kt.same s1)).inv
      cases eu
      have lu := dus.len
      rw [List.length_map] at lu
      refine ⟨_, rfl, p, dx, fs, rfl, hp1, pn_meth "set_faults" lk no (by decide +kernel), _, rfl, p, T.PC, dx, fs, _, rfl, hp1, T.clPC, T.nFa, (lk _).trans a1, u, us, rfl, .inl hus, _, rfl, ?_⟩
      refine ⟨by rw [List.length_append]; exact small_len (by show us.length + 1 ≤ 100000; omega), fun D hD => ?_⟩
      have s2 := s1.trans (same_new (o := .lst (us ++ [x])) hD)
      have ds2 : Dts K (upd H1 D (.lst (us ++ [x]))) (us ++ [x]) ((st.fs ++ [f]).map ftD) := by
        rw [List.map_append]
        exact (dus.k (Kt.new hD)).snoc ((df.k (Kt.same s1)).k (Kt.new hD))
      refine ⟨p, D, h, g, st.fs ++ [f], rfl, hr0.ks s2, hl, ⟨false, _, SqL.of upd_same, ds2⟩, ⟨by rw [List.length_append]; show st.fs.length + 1 ≤ 30; omega, fun y m => (List.mem_append.mp m).elim (fm y) fun m => by rw [List.mem_singleton.mp m]; exact hf⟩, fun H3 u3 v3 off r3 du sv => ?_⟩
      have kt : Kt K H H3 := (Kt.same s2).trans (Kt.off (s2 _ _ hp) off)
      refine kk H3 ((Off.of s2).trans off) ⟨_, u3, v3, w, r3, ?_, setG_eq, ?_, ?_, du, sv, kt _ _ a7, a8, norm_norm _ _⟩
      · rw [setG_ne (by decide +kernel), setG_eq]
      · rw [setG_ne (by decide +kernel), setG_ne (by decide +kernel), a3]
      · rw [setG_ne (by decide +kernel), setG_ne (by decide +kernel), a4]
    · exact .inr ⟨odd, er⟩
theorem ok_mend_fault (T : Txt K mg) : FnOk P w K mg base (L2.CX P w) 7 T.a_mend_fault T.d_mend_fault ["self", "fault"] (sp_mend_fault K T.C T.HC T.PC T.CF T.CN) := by
  refine T.F_mend_fault.okX sc_mend_fault (fun vs H Q E h => ?_) (fun cdv A outer s H vs Q E hr h => ?_)
  · obtain ⟨p, x, h, s, rfl, _⟩ := h
    rfl
  · obtain ⟨p, x, h, st, rfl, hP, ok, alt⟩ := h
    have hl := ok.ri.len
    obtain ⟨fl, fm⟩ := hP.fok hl
    obtain ⟨g, u, v, w, hr0, a1, a2, a3, a4, a5, a6, a7, a8, a9⟩ := id hP
    obtain ⟨dx, fs, hh, hp, lf, lk, gh, hA, no⟩ := id hr0
    obtain ⟨dh, fh, rq, hhp, l1, l2, l3, l4, l5, l6, l7, l8, rr⟩ := id hA
    obtain ⟨dq, fq, yq, hq, m1, m2, m3, m4, m5⟩ := id rr
    refine ⟨_, (pss_cons (ps_expr (MS.pe_methS (pe_fld (pe_fld (pv 0) rfl) rfl) T.clC T.m_check_fault (ok_check_fault T) (hr.mono (by decide)) T.b_check_fault (fun σ => passAt (takes_of rfl rfl rfl rfl) σ) (by exact (pa_cons (pv 1) pa_nil))))
      (pss_cons (ps_if (pt_cmpR (show OpR _ _ (Ind.rNinS K) from Ind.op_ninS (Ind.room65 hr)) (pv 1) (pe_fld (pv 0) rfl) rfl)
        (pss_one (ps_raiseLowN rfl T.lowN hr (takes_of rfl rfl rfl rfl) (by exact (pa_cons (pv 1) pa_nil))))
        pss_nil)
      (pss_one (ps_expr (pe_meth (pv 0) T.clPC T.m_set_faults (ok_set_faults T) (hr.mono (by decide)) T.b_set_faults .nil pass0 (pa_cons (pe_lc (own := [("other", 2)]) (g := gName 2) rfl sc_mend_fault.nd (pi_tup (pe_fld (pv 0) rfl)) (blkOk_by (own := [("other", 2)]) (N := nm_mend_fault) (sc := (defScope s_mend_fault)) (by decide +kernel)) (fun _ _ _ _ _ => pg_name (i := 2) sc_mend_fault.nd rfl (Or.inl rfl)) (fun _ _ _ _ _ => (pts_one (pt_cmpR (show OpR _ _ (rNeD K) from op_neD hr.units) (pv 2) (pv 1) (nomark _)))) (fun _ _ _ _ _ => (pv 2))) pa_nil)))))), ?_⟩
    refine ⟨_, rfl, p, T.PC, dx, fs, _, rfl, hp, T.clPC, T.nHo, (lk _).trans gh, hh, T.HC, dh, fh, _, rfl, hhp, T.clHC, T.nLa, l6, rq, dq, fq, rfl, hq, no_meth "check_fault" (by decide +kernel) (by decide +kernel) (by decide +kernel) m4, _, rfl, rq, x, h.l, rfl, rr, hl, ?_⟩
    rcases alt with ⟨f, df, hf, alt⟩ | ⟨odd, er⟩
    · refine .inl ⟨f, df, hf, fun H1 s1 => ?_⟩
      have hp1 := s1 _ _ hp
      have a51 := a5.k (Kt.same s1)
      refine ⟨_, rfl, _, rfl, p, T.PC, dx, fs, _, rfl, hp1, T.clPC, T.nFa, (lk _).trans a1, ftD f, st.fs.map ftD, true, (df.k (Kt.same s1)).toDp, a51.toDp, (fine_ft f (n := 0)).1, Nat.le_trans (fine_ft f (n := 0)).2 (by decide), lay_fts _, ?_⟩
      rw [any_ft]
      refine ⟨_, rfl, ?_⟩
      rcases alt with ⟨mem, kk⟩ | ⟨nm, er⟩
      · rw [decide_eq_true mem]
        refine iteF ?_
        obtain ⟨u', us, eu, hus, dus⟩ := a51.inv
        cases eu
        have lu := dus.len
        rw [List.length_map] at lu
        refine ⟨_, rfl, p, dx, fs, rfl, hp1, pn_meth "set_faults" lk no (by decide +kernel), _, rfl, p, T.PC, dx, fs, _, rfl, hp1, T.clPC, T.nFa, (lk _).trans a1, u, rfl, ⟨_, hus⟩, fun D hD => ?_⟩
        refine lc_sel (K := K) walk_tup (fun y => !decide (y = f)) (out := ftD) dus lu hD (by omega) (fun H' s => sameT s hus) (fun i z y H' hz hy dz sm Q2 Z q2 z0 => ?_) (fun H3 os s3 hos dos => ?_)
        · refine ⟨rfl, ?_⟩
          have f1 := fine_ft y (n := 0)
          have f2 := fine_ft f (n := 0)
          refine ⟨_, rfl, _, rfl, ftD y, ftD f, (dz.k (Kt.same sm)).toDp, ((df.k (Kt.same s1)).k (Kt.same sm)).toDp, f1.shaped (by decide), f2.shaped (by decide), ?_⟩
          rw [eqv_ftd]
          refine ⟨_, rfl, ?_⟩
          cases c : (!decide (y = f)) with
          | true => exact ⟨_, rfl, q2 c _ _ (Same.refl _) (dz.k (Kt.same sm))⟩
          | false => exact z0 c _ (Same.refl _)
        · have dos : Dts K H3 os ((st.fs.filter fun y => !decide (y = f)).map ftD) := dos
          have s13 := s1.trans s3
          refine ⟨p, D, h, g, st.fs.filter fun y => !decide (y = f), rfl, hr0.ks s13, hl, ⟨false, os, SqL.of hos, dos⟩, ⟨Nat.le_trans (List.length_filter_le _ _) (by omega), fun y m => fm y (List.mem_filter.mp m).1⟩, fun H4 u3 v3 off r3 du sv => ?_⟩
          have kt : Kt K H H4 := (Kt.same s13).trans (Kt.off (s13 _ _ hp) off)
          refine kk H4 ((Off.of s13).trans off) ⟨_, u3, v3, w, r3, ?_, setG_eq, ?_, ?_, du, sv, kt _ _ a7, a8, norm_norm _ _⟩
          · rw [setG_ne (by decide +kernel), setG_eq]
          · rw [setG_ne (by decide +kernel), setG_ne (by decide +kernel), a3]
          · rw [setG_ne (by decide +kernel), setG_ne (by decide +kernel), a4]
      · rw [decide_eq_false nm]
        exact iteT ⟨_, rfl, _, rfl, fun dd hd => er _ dd (s1.trans (same_new hd)) upd_same⟩
    · exact .inr ⟨odd, er⟩
end
end K52

namespace K52
open PySem L2 Wm TL Dv Rm Lo
section
variable {P : Program} {w : World} {K : PySem.W.Frag} {mg : Str → Option Value} {base : Heap}
theorem inV_nats (j : Nat) (hs : List Nat) : inV (.int ((j : Nat) : Int)) (nV hs) = decide (j ∈ hs) := by
  unfold inV nV
  induction hs with
  | nil => rfl
  | cons a r ih =>
    rw [List.map_cons, List.any_cons, ih]
    have e : eqV (V.int ((a : Nat) : Int)) (V.int ((j : Nat) : Int)) = decide (j = a) := by
      show decide (((a : Nat) : Int) = ((j : Nat) : Int)) = _
      exact decide_eq_decide.mpr (by omega)
    rw [e]
    by_cases c : j = a
    · simp [c]
    · simp [c]
theorem nV_flat (hs : List Nat) : (nV hs).all flatV = true := by
  unfold nV
  rw [List.all_map]
  exact List.all_eq_true.mpr fun _ _ => rfl
theorem ok_count_behind (T : Txt K mg) : FnOk P w K mg base CX0 1 T.a_count_behind T.d_count_behind ["self", "seeker", "level"] (sp_count_behind K T.C T.HC T.PC) := by
  refine T.F_count_behind.ok sc_count_behind (fun vs H Q E h => ?_) (fun cdv A outer s H vs Q E hr h => ?_)
  · obtain ⟨p, j, m, h, s, rfl, _⟩ := h
    rfl
  · obtain ⟨p, j, m, h, st, rfl, hP, hj, ok, kk⟩ := h
    have hl := ok.ri.len
    obtain ⟨g, u, v, w, hr0, a1, a2, a3, a4, a5, a6, a7, a8, a9⟩ := id hP
    obtain ⟨dx, fs, hh, hp, lf, lk, gh, hA, no⟩ := id hr0
    obtain ⟨dh, fh, rq, hhp, l1, l2, l3, l4, l5, l6, l7, l8, rr⟩ := id hA
    refine ⟨_, (pss_cons (ps_set (i := 3) sc_count_behind.nd rfl (Or.inl rfl) (pe_and (pe_cmpR op_in_seq (pv 1) (pe_fld (pv 0) rfl) rfl) (pe_one (pe_cmpR op_gt (pv 2) (pe_fld (pe_fld (pv 0) rfl) rfl) (nomark _)))))
      (pss_one (ps_ret (pe_ifExp (pt_val (pv 3)) (pe_op op_add (pe_ix ix_tup (pe_fld (pv 0) rfl) (pv 1) (fun _ _ => rfl)) pe_int) pe_int)))), ?_⟩
    refine ⟨_, rfl, _, rfl, p, T.PC, dx, fs, _, rfl, hp, T.clPC, T.nHe, (lk _).trans a2, v, _, rfl, .inr a6, rfl, nV_flat _, ?_⟩
    rw [show (if false = true then !inV (V.int ((j : Nat) : Int)) (nV (heardL h.l (opn h.l st.fs))) else inV (V.int ((j : Nat) : Int)) (nV (heardL h.l (opn h.l st.fs)))) = decide (j ∈ heardL h.l (opn h.l st.fs)) from inV_nats _ _]
    have wj : (nV st.cs)[j]? = some (.int ((st.cs.getD j 0 : Nat) : Int)) := by
      unfold nV
      have hj2 : j < st.cs.length := by omega
      rw [List.getElem?_map, List.getElem?_eq_getElem hj2]
      show some (V.int ((st.cs[j] : Nat) : Int)) = _
      rw [List.getD_eq_getElem?_getD, List.getElem?_eq_getElem hj2]
      rfl
    have kk := kk H (Same.refl H)
    refine ⟨_, rfl, ?_⟩
    cases c : decide (j ∈ heardL h.l (opn h.l st.fs)) with
    | false =>
      rw [c] at kk
      refine iteF ?_
      exact ⟨_, rfl, _, rfl, iteF kk⟩
    | true =>
      rw [c] at kk
      refine iteT ⟨_, rfl, _, rfl, p, T.PC, dx, fs, _, rfl, hp, T.clPC, T.nHo, (lk _).trans gh, hh, T.HC, dh, fh, _, rfl, hhp, T.clHC, T.nMa, l3, _, _, rfl, rfl, ?_⟩
      dsimp only
      cases d : decide (h.m < m) with
      | false =>
        rw [d] at kk
        exact ⟨_, rfl, _, rfl, iteF kk⟩
      | true =>
        rw [d] at kk
        refine ⟨_, rfl, _, rfl, iteT ⟨_, rfl, p, T.PC, dx, fs, _, rfl, hp, T.clPC, T.nCo, (lk _).trans a3, _, rfl, w, _, ((j : Nat) : Int), _, rfl, rfl, a7, atI_nat wj, _, _, rfl, rfl, ?_⟩⟩
        exact kk
end
end K52

namespace K52
open PySem L2 Wm TL Dv Rm Lo
section
variable {P : Program} {w : World} {K : PySem.W.Frag} {mg : Str → Option Value} {base : Heap}
/-- enumerate of a local that holds a list or a tuple -/
theorem or_enum {t : Bool} {H : Hp} {q : Addr} {xs : List V} {σ : L2.St} {i : Nat} {R : It → Hp → Prop} (hv : σ[i]? = some (some (.ref q))) (his : Kd.Is K t H q xs)
    (h : ∀ J G, Walk J xs.length G (YPair (fun i => some (.int ((i : Nat) : Int))) (fun i => xs[i]?)) → (∀ H', Kd.Is K t H' q xs → G H') → R J H) : iEnum K (tCons (tVar i) tNil) σ H R ∨ Es.iEnt K (tCons (tVar i) tNil) σ H R := by
  cases t with
  | true => exact .inr ⟨_, hv, q, xs, rfl, his, h _ _ Es.walk_ent fun _ z => z⟩
  | false => exact .inl ⟨_, hv, q, xs, rfl, his, h _ _ walk_enum fun _ z => z⟩
theorem isLen {t : Bool} {H : Hp} {q : Addr} {xs : List V} (h : Kd.Is K t H q xs) : SqL K H q xs ∨ SqT K H q xs := by
  cases t with
  | true => exact .inr h
  | false => exact .inl h
theorem ok_check_levels (T : Txt K mg) : FnOk P w K mg base (L2.CX P w) 2 T.a_check_levels T.d_check_levels ["house", "levels"] (sp_check_levels K T.C T.HC T.CV) := by
  refine T.F_check_levels.okX sc_check_levels (fun vs H Q E h => ?_) (fun cdv A outer s H vs Q E hr h => ?_)
  · obtain ⟨p, q, h, o, rfl, _⟩ := h
    rfl
  · obtain ⟨p, q, h, o, rfl, hA, hl, lv, kk⟩ := h
    obtain ⟨dh, fh, rq, hhp, l1, l2, l3, l4, l5, l6, l7, l8, rr⟩ := id hA
    refine ⟨_, (pss_cons (ps_if (pt_cmpR op_ne (pe_callB call_len_seq (by rfl) T.z_len PySem.boot_len (pa_cons (pv 1) pa_nil)) (pe_fld (pv 0) rfl) (nomark _))
        (pss_one (ps_raiseLowV rfl T.lowV hr (takes_of rfl rfl rfl rfl) (by exact (pa_cons pe_str (pa_cons (pe_callB call_len_seq (by rfl) T.z_len PySem.boot_len (pa_cons (pv 1) pa_nil)) pa_nil)))))
        pss_nil)
      (pss_one (ps_for (passes_of rfl) rfl (Kd2.pi_or (pi_enum (by rfl) T.z_enumerate (pa_cons (pv 1) pa_nil)) (Es.pi_ent (by rfl) T.z_enumerate (pa_cons (pv 1) pa_nil))) (pg_tup rfl (pgs_cons (pg_name (i := 2) sc_check_levels.nd rfl (Or.inl rfl)) (pgs_cons (pg_name (i := 3) sc_check_levels.nd rfl (Or.inl rfl)) pgs_nil)))
        (pss_one (ps_if (pt_not (pt_val (pe_call (ok_is_whole T) (hr.mono (by decide)) (by rfl) T.g_is_whole T.F_is_whole.kp T.b_is_whole .nil pass0 (pa_cons (pv 3) pa_nil))))
          (pss_one (ps_raiseLowV rfl T.lowV hr (takes_of rfl rfl rfl rfl) (by exact (pa_cons pe_str (pa_cons (pv 2) pa_nil)))))
          pss_nil))))), ?_⟩
    have cl : h.l.count true ≤ h.l.length := List.count_le_length
    have two : (∃ (t : Bool) (xs : List V), Kd.Is K t H q xs ∧ xs.length ≠ h.l.count true ∧ xs.length ≤ 1000 ∧ Er2 T.CV "what" "at" E H (.str "length") (.int ((xs.length : Nat) : Int))) ∨ ∃ (t : Bool) (xs : List V) (bad : Option Nat), Kd.Is K t H q xs ∧ xs.length = h.l.count true ∧
        (∀ (i : Nat) x, xs[i]? = some x → (∀ b, bad = some b → i < b) → ∃ m : Int, x = .int m) ∧ (∀ b, bad = some b → ∃ x, xs[b]? = some x ∧ Thing K H x none ∧ Er2 T.CV "what" "at" E H (.str "level") (.int ((b : Nat) : Int))) ∧ (bad = none → ∀ H', Same H H' → Q .non H') := by
      cases lv with
      | len his ne l1000 => exact .inl ⟨_, _, his, ne, l1000, kk⟩
      | @good t ms his len =>
        refine .inr ⟨t, _, none, his, by rw [List.length_map]; exact len, fun i x hx _ => ?_, (fun b e => by cases e), fun _ => kk⟩
        rw [List.getElem?_map] at hx
        obtain ⟨m, _, rfl⟩ := Option.map_eq_some_iff.mp hx
        exact ⟨m, rfl⟩
      | @level t ms x rest his len th =>
        refine .inr ⟨t, _, some ms.length, his, len, fun i y hy lt => ?_, fun b e => ?_, (fun e => by cases e)⟩
        · have lt := lt _ rfl
          rw [List.getElem?_append_left (by rw [List.length_map]; exact lt), List.getElem?_map] at hy
          obtain ⟨m, _, rfl⟩ := Option.map_eq_some_iff.mp hy
          exact ⟨m, rfl⟩
        · cases e
          refine ⟨x, ?_, th, kk⟩
          rw [List.getElem?_append_right (by rw [List.length_map]; exact Nat.le_refl _), List.length_map, Nat.sub_self]
          rfl
    rcases two with ⟨t, xs, his, ne, l1000, er⟩ | ⟨t, xs, bad, his, len, ints', atb, fin⟩
    · refine ⟨_, rfl, q, _, rfl, isLen his, _, rfl, p, T.HC, dh, fh, _, rfl, hhp, T.clHC, T.nSk, l7, rfl, _, rfl, ?_⟩
      rw [decide_eq_false (fun z => ne (by have := V.int.inj z; omega))]
      exact iteT ⟨_, rfl, q, _, rfl, isLen his, _, _, rfl, fun dd hd => er _ dd (same_new hd) upd_same⟩
    · refine ⟨_, rfl, q, _, rfl, isLen his, _, rfl, p, T.HC, dh, fh, _, rfl, hhp, T.clHC, T.nSk, l7, rfl, _, rfl, ?_⟩
      rw [len, decide_eq_true (show V.int ((h.l.count true : Nat) : Int) = V.int ((h.l.count true : Nat) : Int) from rfl)]
      refine iteF (or_enum rfl his fun J G wk hG => ?_)
      refine for_it wk (fun i σ A => ∃ v2 v3, σ = [some (.ref p), some (.ref q), v2, v3] ∧ Same H A ∧ ∀ b, bad = some b → i ≤ b) ⟨none, none, rfl, Same.refl _, fun b _ => Nat.zero_le _⟩ (fun i σ A _ h => let ⟨_, _, _, s, _⟩ := h; hG _ (his.keep s)) (fun i x σ A A' hi hP hY => ?_) (fun σ A hP => ?_)
      · obtain ⟨v2, v3, rfl, sm, nb⟩ := hP
        obtain ⟨Tt, a, y, rfl, hT, rfl, hai, hyi⟩ := hY
        cases Option.some.inj hai
        have hyi : xs[i]? = some y := hyi
        have sT := sm.trans (same_new (o := .tup [V.int ((i : Nat) : Int), y]) hT)
        refine ⟨Tt, _, rfl, SqT.of upd_same, rfl, _, _, rfl, _, _, rfl, rfl, ?_⟩
        by_cases c : bad = some i
        · obtain ⟨x, hx, th, er⟩ := atb i c
          rw [hyi] at hx
          cases hx
          refine ⟨_, rfl, _, _, rfl, th.k sT, ⟨false, rfl, iteT ?_⟩⟩
          exact ⟨_, rfl, _, _, rfl, fun dd hd => er _ dd (sT.trans (same_new hd)) upd_same⟩
        · have lt : ∀ b, bad = some b → i < b := fun b e => by
            have := nb b e
            have ne : b ≠ i := fun z => c (by rw [e, z])
            omega
          obtain ⟨m, rfl⟩ := ints' i y hyi lt
          exact ⟨_, rfl, _, _, rfl, .int m, ⟨true, rfl, iteF ⟨_, _, rfl, sT, fun b e => lt b e⟩⟩⟩
      · obtain ⟨v2, v3, rfl, sm, nb⟩ := hP
        cases bad with
        | none => exact fin rfl _ sm
        | some b =>
          obtain ⟨x, hx, _⟩ := atb b rfl
          have := (List.getElem?_eq_some_iff.mp hx).1
          have := nb b rfl
          omega
end
end K52

namespace K52
open PySem L2 Wm TL Dv Rm Lo
section
variable {P : Program} {w : World} {K : PySem.W.Frag} {mg : Str → Option Value} {base : Heap}
theorem nV_at {f : Nat → Nat} {n i : Nat} (h : i < n) : (nV ((List.range n).map f))[i]? = some (.int ((f i : Nat) : Int)) := by
  unfold nV
  rw [List.getElem?_map, List.getElem?_map, List.getElem?_range h]
  rfl
theorem step_len (h : Hs) (fs : List Ft) (cs : List Nat) (ms : List Int) : (stepC h fs cs ms).length = h.l.count true := by
  unfold stepC
  rw [List.length_map, List.length_range]
theorem nats_dts {H : Hp} (cs : List Nat) : Dts K H (nV cs) (cs.map fun c => PyData.int ((c : Nat) : Int)) := by
  induction cs with
  | nil => exact .nil
  | cons c r ih => exact .cons (.int _) ih
theorem ok_beat (T : Txt K mg) : FnOk P w K mg base (L2.CX P w) 3 T.a_beat T.d_beat ["self", "levels"] (sp_beat K T.C T.HC T.PC T.CV) := by
  refine T.F_beat.okX sc_beat (fun vs H Q E h => ?_) (fun cdv A outer s H vs Q E hr h => ?_)
  · obtain ⟨p, q, h, s, o, rfl, _⟩ := h
    rfl
  · obtain ⟨p, q, h, st, o, rfl, hP, ok, lv, kk⟩ := h
    have hl := ok.ri.len
    have cl : h.l.count true ≤ h.l.length := List.count_le_length
    obtain ⟨g, u, v, w, hr0, a1, a2, a3, a4, a5, a6, a7, a8, a9⟩ := id hP
    obtain ⟨dx, fs, hh, hp, lf, lk, gh, hA, no⟩ := id hr0
    refine ⟨_, (pss_cons (ps_expr (pe_callS (ok_check_levels T) (hr.mono (by decide)) (by rfl) T.g_check_levels T.F_check_levels.kp T.b_check_levels (fun σ => passAt (takes_of rfl rfl rfl rfl) σ) (by exact (pa_cons (pe_fld (pv 0) rfl) (pa_cons (pv 1) pa_nil)))))
      (pss_cons (ps_set (i := 2) sc_beat.nd rfl (Or.inl rfl) (pe_fld (pv 0) rfl))
      (pss_cons (ps_fld (pv 0) (pe_callTy call_tuple_of (by rfl) T.z_tuple (by decide +kernel) (pa_cons (pe_lc (own := [("seeker", 3), ("level", 4)]) (g := gTup K 2 (gCons (gName 3) (gCons (gName 4) (gNil)))) (tt := tYes) rfl sc_beat.nd (Kd2.pi_or (pi_enum (by rfl) T.z_enumerate (pa_cons (pv 1) pa_nil)) (Es.pi_ent (by rfl) T.z_enumerate (pa_cons (pv 1) pa_nil))) (blkOk_by (own := [("seeker", 3), ("level", 4)]) (N := nm_beat) (sc := (defScope s_beat)) (by decide +kernel)) (fun _ _ _ _ _ => (pg_tup rfl (pgs_cons (pg_name (i := 3) sc_beat.nd rfl (Or.inl rfl)) (pgs_cons (pg_name (i := 4) sc_beat.nd rfl (Or.inl rfl)) pgs_nil)))) (fun _ _ _ _ _ => pts_nil) (fun _ _ _ _ _ => (pe_meth (pv 0) T.clPC T.m_count_behind (ok_count_behind T) (hr.mono (by decide)) T.b_count_behind .nil pass0 (pa_cons (pv 3) (pa_cons (pv 4) pa_nil))))) pa_nil)) rfl)
      (pss_cons (ps_setLc (i := 5) (own := [("count", 6)]) (g := gName 6) rfl sc_beat.nd rfl rfl (sw_true rfl rfl rfl (by decide +kernel)) (pi_tup (pe_fld (pv 0) rfl)) (blkOk_by (own := [("count", 6)]) (N := nm_beat) (sc := (defScope s_beat)) (by decide +kernel)) (fun _ _ _ _ _ => pg_name (i := 6) sc_beat.nd rfl (Or.inl rfl)) (fun _ _ _ _ _ => (pts_one (pt_cmpR op_ge (pv 6) (show PE _ _ (tFld K (tFld K (tVar 0) "house") "rows") from by exact (pe_fld (pe_fld (pv 0) rfl) rfl)) (nomark _)))) (fun _ _ _ _ _ => (pv 6)))
      (pss_cons (ps_fld (pv 0) (pe_cmpR op_ge (pe_callB call_len_seq (by rfl) T.z_len PySem.boot_len (pa_cons (pv 5) pa_nil)) (pe_fld (pe_fld (pv 0) rfl) rfl) (nomark _)) rfl)
      (pss_one (ps_ret (pe_and (pe_fld (pv 0) rfl) (pe_one (pe_not (pv 2))))))))))), ?_⟩
    refine ⟨_, rfl, p, T.PC, dx, fs, _, rfl, hp, T.clPC, T.nHo, (lk _).trans gh, _, rfl, hh, q, h, o, rfl, hA, hl, lv, ?_⟩
    cases lv with
    | len his ne l1000 => exact kk
    | level his len th => exact kk
    | @good t ms his len =>
      intro H1 s1
      have hp1 := s1 _ _ hp
      refine ⟨_, rfl, p, T.PC, dx, fs, _, rfl, hp1, T.clPC, T.nAl, (lk _).trans a4, ?_⟩
      refine or_enum rfl (his.keep s1) fun J G wk hG => fun D hD => ?_
      have lms : (ms.map V.int).length = h.l.count true := by rw [List.length_map]; exact len
      refine Lm.lc_any wk (fun i y _ => (nV (stepC h st.fs st.cs ms))[i]? = some y) (fun _ _ _ _ _ e _ _ => e) (fun i A x A' y => by obtain ⟨Tt, a, z, rfl, hT, rfl, _⟩ := y; exact same_new hT) hD (by omega) (fun A s => hG _ ((his.keep s1).keep s)) (fun i x A A' hi sm _ hY Q2 Z q2 => ?_) (fun A ys sm hy ly hR => ?_)
      · obtain ⟨Tt, a, y, rfl, hT, rfl, hai, hyi⟩ := hY
        cases Option.some.inj hai
        have hyi : (ms.map V.int)[i]? = some y := hyi
        rw [List.getElem?_map] at hyi
        obtain ⟨m, hm, rfl⟩ := Option.map_eq_some_iff.mp hyi
        have s2 := (s1.trans sm).trans (same_new (o := .tup [V.int ((i : Nat) : Int), .int m]) hT)
        refine ⟨Tt, _, rfl, SqT.of upd_same, rfl, _, _, rfl, _, _, rfl, rfl, rfl, yesT ?_⟩
        have hi' : i < h.l.count true := by rw [← lms]; exact hi
        refine ⟨_, rfl, p, dx, fs, rfl, s2 _ _ hp, pn_meth "count_behind" lk no (by decide +kernel), _, rfl, _, rfl, p, i, m, h, st, rfl, hP.ks s2, hi', ok, fun A2 s3 => ?_⟩
        refine q2 _ _ s3 ?_
        unfold stepC
        rw [nV_at hi']
        have em : ms.getD i 0 = m := by rw [List.getD_eq_getElem?_getD, hm]; rfl
        rw [em]
      · have ey : ys = nV (stepC h st.fs st.cs ms) := Lm.list_is (by unfold nV; rw [List.length_map, step_len]; omega) fun i y e => hR i y e
        rw [ey] at hy
        refine ⟨D, _, rfl, .inl ⟨SqL.of hy, fun u2 hu2 => ?_⟩⟩
        have s4 := (s1.trans sm).trans (same_new (o := .tup (nV (stepC h st.fs st.cs ms))) hu2)
        have hu4 : upd A u2 (.tup (nV (stepC h st.fs st.cs ms))) u2 = some (.tup (nV (stepC h st.fs st.cs ms))) := upd_same
        generalize upd A u2 (.tup (nV (stepC h st.fs st.cs ms))) = A4 at *
        have hp4 := s4 _ _ hp
        refine ⟨_, rfl, p, T.PC, dx, fs, rfl, hp4, T.clPC, T.nCo, Nat.lt_of_le_of_lt lf.len (by decide), ?_⟩
        have r5 := PRaw.set (K := K) (v := .ref u2) (k := "counts") hp4 lf lk gh (hA.keep s4) no (by decide +kernel) (by decide +kernel)
        have o5 : Off p H (upd A4 p (.ins T.PC dx (putF "counts" (.ref u2) fs))) := (Off.of s4).trans Off.set
        have hu5 : SqT K (upd A4 p (.ins T.PC dx (putF "counts" (.ref u2) fs))) u2 (nV (stepC h st.fs st.cs ms)) := kt_ins (K := K) hp4 _ _ (SqT.of hu4)
        generalize upd A4 p (.ins T.PC dx (putF "counts" (.ref u2) fs)) = A5 at *
        obtain ⟨dx5, fs5, hh5, hp5, lf5, lk5, gh5, hA5, no5⟩ := id r5
        obtain ⟨dh5, fh5, rq5, hhp5, l15, l25, l35, l45, l55, l65, l75, l85, rr5⟩ := id hA5
        have ln5 : (nV (stepC h st.fs st.cs ms)).length = (stepC h st.fs st.cs ms).length := by unfold nV; rw [List.length_map]
        have stl := step_len h st.fs st.cs ms
        refine ⟨_, rfl, p, T.PC, dx5, fs5, _, rfl, hp5, T.clPC, T.nCo, (lk5 _).trans setG_eq, u2, rfl, ⟨_, hu5⟩, fun D2 hD2 => ?_⟩
        refine lc_sel (K := K) walk_tup (fun c : Nat => decide (h.r ≤ ((c : Nat) : Int))) (dat := fun c => PyData.int ((c : Nat) : Int)) (out := fun c => PyData.int ((c : Nat) : Int)) (nats_dts _) ln5 hD2 (by omega) (fun H' s => sameT s hu5) (fun i x c H' hx hc dxc sm2 Q2 Z q2 z0 => ?_) (fun A6 os s6 hos dos => ?_)
        · refine ⟨rfl, ?_⟩
          have ex : x = .int ((c : Nat) : Int) := dxc.int_inv
          subst ex
          refine ⟨_, rfl, _, rfl, p, T.PC, dx5, fs5, _, rfl, sm2 _ _ hp5, T.clPC, T.nHo, (lk5 _).trans gh5, hh5, T.HC, dh5, fh5, _, rfl, sm2 _ _ hhp5, T.clHC, T.nRo, l45, _, _, rfl, rfl, _, rfl, ?_⟩
          cases d : decide (h.r ≤ ((c : Nat) : Int)) with
          | true => exact ⟨_, rfl, q2 d _ _ (Same.refl _) (.int _)⟩
          | false => exact z0 d _ (Same.refl _)
        · have lo := Dts.len dos
          rw [List.length_map] at lo
          have hp6 := s6 _ _ hp5
          refine ⟨_, rfl, D2, _, rfl, .inl (SqL.of hos), _, rfl, p, T.PC, dx5, fs5, _, rfl, hp6, T.clPC, T.nHo, (lk5 _).trans gh5, hh5, T.HC, dh5, fh5, _, rfl, s6 _ _ hhp5, T.clHC, T.nNe, l55, _, _, rfl, rfl, _, rfl, p, T.PC, dx5, fs5, rfl, hp6, T.clPC, T.nAl, Nat.lt_of_le_of_lt lf5.len (by decide), ?_⟩
          have ea : decide (((h.n : Nat) : Int) ≤ ((os.length : Nat) : Int)) = alarm h (stepC h st.fs st.cs ms) := by
            unfold alarm
            rw [lo]
            exact decide_eq_decide.mpr (by omega)
          dsimp only
          rw [ea]
          have r7 := PRaw.set (K := K) (v := .bl (alarm h (stepC h st.fs st.cs ms))) (k := "alarmed") hp6 lf5 lk5 gh5 (hA5.keep s6) no5 (by decide +kernel) (by decide +kernel)
          have o7 : Off p H (upd A6 p (.ins T.PC dx5 (putF "alarmed" (.bl (alarm h (stepC h st.fs st.cs ms))) fs5))) := (o5.trans (Off.of s6)).trans Off.set
          have hu7 : SqT K (upd A6 p (.ins T.PC dx5 (putF "alarmed" (.bl (alarm h (stepC h st.fs st.cs ms))) fs5))) u2 (nV (stepC h st.fs st.cs ms)) := kt_ins (K := K) hp6 _ _ (sameT s6 hu5)
          generalize upd A6 p (.ins T.PC dx5 (putF "alarmed" (.bl (alarm h (stepC h st.fs st.cs ms))) fs5)) = A7 at *
          obtain ⟨dx7, fs7, hh7, hp7, lf7, lk7, gh7, hA7, no7⟩ := id r7
          have kt : Kt K H A7 := Kt.off hp o7
          have fin := kk A7 o7 ⟨_, u, v, u2, r7, by rw [setG_ne (by decide +kernel), setG_ne (by decide +kernel), a1], by rw [setG_ne (by decide +kernel), setG_ne (by decide +kernel), a2], by rw [setG_ne (by decide +kernel), setG_eq], setG_eq, a5.k kt, kt _ _ a6, hu7, stl, a9⟩
          unfold warns at fin
          refine ⟨_, rfl, p, T.PC, dx7, fs7, _, rfl, hp7, T.clPC, T.nAl, (lk7 _).trans setG_eq, _, rfl, ?_⟩
          cases d : alarm h (stepC h st.fs st.cs ms) with
          | false =>
            rw [d] at fin
            exact iteF fin
          | true =>
            rw [d] at fin
            exact iteT ⟨_, rfl, _, rfl, fin⟩
end
end K52

namespace K52
open PySem L2 Wm TL Dv Rm Lo
section
variable {P : Program} {w : World} {K : PySem.W.Frag} {mg : Str → Option Value} {base : Heap}
theorem Off.same {H H1 H' : Hp} {p : Addr} (s : Same H H1) (n : H p = none) (o : Off p H1 H') : Same H H' := fun q u e => o q u (ne_of_none e n) (s q u e)
theorem HouseAt.lset {C HC : Addr} {H : Hp} {p D : Addr} {h : Hs} {xs : List V} {o : HO} (x : HouseAt K C HC H p h) (e : H D = some (.lst xs)) : HouseAt K C HC (upd H D o) p h := by
  have no : ∀ {q C d : Addr} {f : List (Str × V)}, H q = some (.ins C d f) → q ≠ D := fun k z => by rw [z, e] at k; cases k
  obtain ⟨dx, fs, q, hp, l1, l2, l3, l4, l5, l6, l7, l8, r⟩ := x
  obtain ⟨dq, fq, y, hq, m⟩ := id r
  exact ⟨dx, fs, q, by rw [upd_ne (no hp)]; exact hp, l1, l2, l3, l4, l5, l6, l7, l8, r.off (no hq) (Kt.lst e) Off.set⟩
theorem PRaw.lset {C HC PC : Addr} {H : Hp} {p D : Addr} {h : Hs} {g : Str → Option V} {xs : List V} {o : HO} (x : PRaw K C HC PC H p h g) (e : H D = some (.lst xs)) : PRaw K C HC PC (upd H D o) p h g := by
  obtain ⟨dx, fs, hh, a, b, c, d, f, k⟩ := x
  exact ⟨dx, fs, hh, by rw [upd_ne (fun z => by rw [z, e] at a; cases a)]; exact a, b, c, d, f.lset e, k⟩
/-- a list that is no part of it is filled -/
theorem PanelAt.lset {C HC PC : Addr} {H : Hp} {p D : Addr} {h : Hs} {s : Ps} {xs : List V} {o : HO} (x : PanelAt K C HC PC H p h s) (e : H D = some (.lst xs)) : PanelAt K C HC PC (upd H D o) p h s := by
  obtain ⟨g, u, v, w, r, a1, a2, a3, a4, a5, a6, a7, a8, a9⟩ := x
  have kt : Kt K H (upd H D o) := Kt.lst e
  exact ⟨g, u, v, w, r.lset e, a1, a2, a3, a4, a5.k kt, kt _ _ a6, kt _ _ a7, a8, a9⟩
theorem LvIs.ks {H H' : Hp} {q : Addr} {n : Nat} {o : LvO} (x : LvIs K H q n o) (s : Same H H') : LvIs K H' q n o := by
  cases x with
  | good a b => exact .good (a.keep s) b
  | len a b c => exact .len (a.keep s) b c
  | level a b c => exact .level (a.keep s) b (c.k s)
theorem RowsIs.ks {H H' : Hp} {q : Addr} {n : Nat} {rs : List (List Int)} {bad : Option LvO} (x : RowsIs K H q n rs bad) (s : Same H H') : RowsIs K H' q n rs bad := by
  obtain ⟨t, xs, rest, a, b, c, d, e⟩ := x
  refine ⟨t, xs, rest, a.keep s, b, c, fun i x ms h1 h2 => let ⟨a, e, l⟩ := d i x ms h1 h2; ⟨a, e, l.ks s⟩, ?_⟩
  cases bad with
  | none => exact e
  | some o => exact let ⟨z, a, r, e1, l⟩ := e; ⟨z, a, r, e1, l.ks s⟩
theorem ok_copied (T : Txt K mg) : FnOk P w K mg base CX0 9 T.a_copied T.d_copied ["self"] (sp_copied K T.C T.HC T.PC) := by
  refine T.F_copied.ok sc_copied (fun vs H Q E h => ?_) (fun cdv A outer s H vs Q E hr h => ?_)
  · obtain ⟨p, h, s, rfl, _⟩ := h
    rfl
  · obtain ⟨p, h, st, rfl, hP, ok, kk⟩ := h
    have hl := ok.ri.len
    obtain ⟨fl, fm⟩ := hP.fok hl
    obtain ⟨g, u, v, w, hr0, a1, a2, a3, a4, a5, a6, a7, a8, a9⟩ := id hP
    obtain ⟨dx, fs, hh, hp, lf, lk, gh, hA, no⟩ := id hr0
    refine ⟨_, (pss_cons (ps_set (i := 1) sc_copied.nd rfl (Or.inl rfl) (pe_make T.mk_pinit (ok_pinit T) (hr.mono (by decide)) (by rfl) T.gPC T.b_pinit .nil pass0 (pa_cons (pe_fld (pv 0) rfl) pa_nil)))
      (pss_cons (ps_expr (pe_meth (pv 1) T.clPC T.m_set_faults (ok_set_faults T) (hr.mono (by decide)) T.b_set_faults .nil pass0 (pa_cons (pe_fld (pv 0) rfl) pa_nil)))
      (pss_cons (ps_fld (pv 1) (pe_fld (pv 0) rfl) rfl)
      (pss_cons (ps_fld (pv 1) (pe_fld (pv 0) rfl) rfl)
      (pss_one (ps_ret (pv 1))))))), ?_⟩
    refine ⟨_, rfl, p, T.PC, dx, fs, _, rfl, hp, T.clPC, T.nHo, (lk _).trans gh, fun x dy hx hdy ne => ?_⟩
    have sm := made (C := T.PC) hx hdy ne
    refine ⟨x, hh, dy, h, rfl, upd_same, hA.keep sm, ok, fun H1 off hX => ⟨rfl, ?_⟩⟩
    have s1 := made_off hx hdy ne off
    obtain ⟨g1, u1, v1, w1, r1, b1, b2, b3, b4, b5, b6, b7, b8, b9⟩ := id hX
    obtain ⟨dx1, fs1, hh1, hp1, lf1, lk1, gh1, hA1, no1⟩ := id r1
    obtain ⟨u', us, eu, hus, dus⟩ := (a5.k (Kt.same s1)).inv
    cases eu
    refine ⟨_, rfl, x, dx1, fs1, rfl, hp1, pn_meth "set_faults" lk1 no1 (by decide +kernel), _, rfl, p, T.PC, dx, fs, _, rfl, s1 _ _ hp, T.clPC, T.nFa, (lk _).trans a1, x, u, h, g1, st.fs, rfl, r1, hl, ⟨true, us, hus, dus⟩, ⟨by omega, fm⟩, fun H2 u2 v2 off2 r2 du2 sv2 => ?_⟩
    rw [a9] at du2 sv2
    have s2 := Off.same s1 hx off2
    obtain ⟨dx2, fs2, hh2, hp2, lf2, lk2, gh2, hA2, no2⟩ := id r2
    refine ⟨_, rfl, p, T.PC, dx, fs, _, rfl, s2 _ _ hp, T.clPC, T.nCo, (lk _).trans a3, _, rfl, x, T.PC, dx2, fs2, rfl, hp2, T.clPC, T.nCo, Nat.lt_of_le_of_lt lf2.len (by decide), ?_⟩
    have r3 := PRaw.set (K := K) (v := .ref w) (k := "counts") hp2 lf2 lk2 gh2 hA2 no2 (by decide +kernel) (by decide +kernel)
    have o3 : Off x H2 (upd H2 x (.ins T.PC dx2 (putF "counts" (.ref w) fs2))) := Off.set
    have k3 : Kt K H2 (upd H2 x (.ins T.PC dx2 (putF "counts" (.ref w) fs2))) := kt_ins hp2
    have s3 := Off.same s2 hx o3
    have du3 := du2.k k3
    have sv3 := k3 _ _ sv2
    generalize upd H2 x (.ins T.PC dx2 (putF "counts" (.ref w) fs2)) = H3 at *
    obtain ⟨dx3, fs3, hh3, hp3, lf3, lk3, gh3, hA3, no3⟩ := id r3
    refine ⟨_, rfl, p, T.PC, dx, fs, _, rfl, s3 _ _ hp, T.clPC, T.nAl, (lk _).trans a4, _, rfl, x, T.PC, dx3, fs3, rfl, hp3, T.clPC, T.nAl, Nat.lt_of_le_of_lt lf3.len (by decide), ?_⟩
    have r4 := PRaw.set (K := K) (v := .bl st.al) (k := "alarmed") hp3 lf3 lk3 gh3 hA3 no3 (by decide +kernel) (by decide +kernel)
    have k4 : Kt K H3 (upd H3 x (.ins T.PC dx3 (putF "alarmed" (.bl st.al) fs3))) := kt_ins hp3
    refine ⟨_, rfl, kk _ x (Off.same s3 hx Off.set) hx ⟨_, u2, v2, w, r4, ?_, ?_, ?_, setG_eq, du3.k k4, k4 _ _ sv3, k4 _ _ (sameT s3 a7), a8, a9⟩⟩
    · rw [setG_ne (by decide +kernel), setG_ne (by decide +kernel), setG_ne (by decide +kernel), setG_eq]
    · rw [setG_ne (by decide +kernel), setG_ne (by decide +kernel), setG_eq]
    · rw [setG_ne (by decide +kernel), setG_eq]
end
end K52

namespace K52
open PySem L2 Wm TL Dv Rm Lo
section
variable {P : Program} {w : World} {K : PySem.W.Frag} {mg : Str → Option Value} {base : Heap}
def putF1 (h : Hs) (a : List Ft) (f : Ft) : List Ft := norm h.l (a ++ [f])
theorem puts_take {h : Hs} {s : Ps} {fs : List Ft} {i : Nat} {f : Ft} (hf : fs[i]? = some f) : (⟨norm h.l ((putsP h s (fs.take i)).fs ++ [f]), s.cs, s.al⟩ : Ps) = putsP h s (fs.take (i + 1)) := by
  unfold putsP
  rw [List.take_add_one, hf, Option.toList_some, List.foldl_append]
  rfl
/-- the state behind the first rows -/
def runS (h : Hs) (s : Ps) (rs : List (List Int)) : Ps := rs.foldl (beatP h) s
theorem run_take {h : Hs} : ∀ {rs : List (List Int)} {s : Ps} {i : Nat} {ms : List Int}, rs[i]? = some ms → beatP h (runS h s (rs.take i)) ms = runS h s (rs.take (i + 1)) := fun {rs s i ms} e => by
  unfold runS
  rw [List.take_add_one, e, Option.toList_some, List.foldl_append]
  rfl
theorem run_at {h : Hs} : ∀ {rs : List (List Int)} {s : Ps} {i : Nat} {ms : List Int}, rs[i]? = some ms → (runP h s rs).1[i]? = some (warns h (runS h s (rs.take i)) ms)
  | r :: rs, s, 0, ms, e => by
    cases e
    rfl
  | r :: rs, s, i + 1, ms, e => by
    show (runP h (beatP h s r) rs).1[i]? = _
    rw [run_at (rs := rs) (s := beatP h s r) (i := i) (ms := ms) e]
    rfl
theorem run_len {h : Hs} : ∀ (rs : List (List Int)) (s : Ps), (runP h s rs).1.length = rs.length
  | [], s => rfl
  | r :: rs, s => by
    show (runP h (beatP h s r) rs).1.length + 1 = _
    rw [run_len rs (beatP h s r)]
    rfl
theorem ok_tried (T : Txt K mg) : FnOk P w K mg base (L2.CX P w) 10 T.a_tried T.d_tried ["panel", "faults", "beats"] (sp_tried K T.C T.HC T.PC T.CF T.CV) := by
  refine T.F_tried.okX sc_tried (fun vs H Q E h => ?_) (fun cdv A outer s H vs Q E hr h => ?_)
  · obtain ⟨p, fq, bq, h, s, rfl, _⟩ := h
    rfl
  · obtain ⟨p, fq, bq, h, st, rfl, hP, ok, alt⟩ := h
    have hl := ok.ri.len
    obtain ⟨g, u, v, w, hr0, a1, a2, a3, a4, a5, a6, a7, a8, a9⟩ := id hP
    obtain ⟨dx, fs, hh, hp, lf, lk, gh, hA, no⟩ := id hr0
    refine ⟨_, (pss_cons (ps_set (i := 3) sc_tried.nd rfl (Or.inr rfl) (pe_meth0 (pv 0) T.clPC T.m_copied (ok_copied T) (hr.mono (by decide)) T.b_copied .nil pass0))
      (pss_cons (ps_for (passes_of rfl) rfl (Kd.pi_seq (pv 1)) (pg_name (i := 4) sc_tried.nd rfl (Or.inl rfl))
        (pss_one (ps_expr (MS.pe_methS (pv 3) T.clPC T.m_put_fault (ok_put_fault T) (hr.mono (by decide)) T.b_put_fault (fun σ => passAt (takes_of rfl rfl rfl rfl) σ) (by exact (pa_cons (pv 4) pa_nil))))))
      (pss_one (ps_ret (pe_callTy call_tuple_of (by rfl) T.z_tuple (by decide +kernel) (pa_cons (Lr.pe_lcR (own := [("levels", 5)]) (g := gName 5) (tt := tYes) rfl (takes_of rfl rfl rfl rfl) rfl rfl sc_tried.nd (Kd.pi_seq (pv 2)) (blkOk_by (own := [("levels", 5)]) (N := nm_tried) (sc := (defScope s_tried)) (by decide +kernel)) (fun _ _ _ _ _ => pg_name (i := 5) sc_tried.nd rfl (Or.inl rfl)) (fun _ _ _ _ _ => pts_nil) (fun _ _ _ _ _ _ bg => (MS.pe_methS (pv 3) T.clPC T.m_beat (ok_beat T) (hr.mono (by decide)) T.b_beat (fun σ => Lr.out_pass bg σ) (by exact (pa_cons (pv 5) pa_nil))))) pa_nil)))))), ?_⟩
    refine ⟨_, rfl, p, dx, fs, rfl, hp, pn_meth "copied" lk no (by decide +kernel), p, h, st, rfl, hP, ok, fun H1 x s1 nx hX => ?_⟩
    rcases alt with ⟨y, hM, er⟩ | ⟨gs, rs, bad, hF, fok, hR, fin⟩
    · obtain ⟨tt, pre, post, fs2, hS, hds, ⟨hf1, hf2⟩, o⟩ := hM
      have el := hds.len
      rw [List.length_map] at el
      refine ⟨_, rfl, fq, _, tt, rfl, hS.keep s1, fun J GG wk hG => ?_⟩
      refine for_it wk (fun i σ A => ∃ v4 s', σ = [some (.ref p), some (.ref fq), some (.ref bq), some (.ref x), v4, none] ∧ Same H A ∧ PanelAt K T.C T.HC T.PC A x h s' ∧ i ≤ pre.length) ⟨none, st, rfl, s1, hX, Nat.zero_le _⟩ (fun i σ A _ h => let ⟨_, _, _, s, _⟩ := h; hG _ (hS.keep s)) (fun i y2 σ A A' hi hP hY => ?_) (fun σ A hP => ?_)
      · obtain ⟨v4, s', rfl, sm, hX', ip⟩ := hP
        obtain ⟨rfl, hx⟩ := hY
        obtain ⟨g1, u1, v1, w1, r1, _⟩ := id hX'
        obtain ⟨dx1, fs1, hh1, hp1, lf1, lk1, gh1, hA1, no1⟩ := id r1
        refine ⟨_, rfl, x, dx1, fs1, rfl, hp1, pn_meth "put_fault" lk1 no1 (by decide +kernel), _, rfl, x, y2, h, s', rfl, hX', ok, ?_⟩
        by_cases c : i < pre.length
        · rw [List.getElem?_append_left c] at hx
          obtain ⟨f, hf, a⟩ := ft_at hds hx
          exact .inl ⟨f, a.k (Kt.same sm), hf2 f (List.mem_of_getElem? hf), fun A3 off hX3 => ⟨_, _, rfl, Off.same sm nx off, hX3, c⟩⟩
        · have e : i = pre.length := by omega
          subst e
          rw [List.getElem?_append_right (Nat.le_refl _), Nat.sub_self] at hx
          have ex : y = y2 := Option.some.inj hx
          subst ex
          exact .inr ⟨o.k sm, fun H3 dd s3 hd3 => er _ dd (sm.trans s3) hd3⟩
      · obtain ⟨v4, s', rfl, sm, hX', ip⟩ := hP
        rw [List.length_append, List.length_cons] at ip
        omega
    · obtain ⟨tt, xs, hS, hds⟩ := hF
      have el := hds.len
      rw [List.length_map] at el
      refine ⟨_, rfl, fq, _, tt, rfl, hS.keep s1, fun J GG wk hG => ?_⟩
      refine for_it wk (fun i σ A => ∃ v4, σ = [some (.ref p), some (.ref fq), some (.ref bq), some (.ref x), v4, none] ∧ Same H A ∧ PanelAt K T.C T.HC T.PC A x h (putsP h st (gs.take i))) ⟨none, rfl, s1, hX⟩ (fun i σ A _ h => let ⟨_, _, s, _⟩ := h; hG _ (hS.keep s)) (fun i y2 σ A A' hi hP hY => ?_) (fun σ A hP => ?_)
      · obtain ⟨v4, rfl, sm, hX'⟩ := hP
        obtain ⟨rfl, hx⟩ := hY
        obtain ⟨g1, u1, v1, w1, r1, _⟩ := id hX'
        obtain ⟨dx1, fs1, hh1, hp1, lf1, lk1, gh1, hA1, no1⟩ := id r1
        obtain ⟨f, hf, a⟩ := ft_at hds hx
        refine ⟨_, rfl, x, dx1, fs1, rfl, hp1, pn_meth "put_fault" lk1 no1 (by decide +kernel), _, rfl, x, y2, h, _, rfl, hX', ok, ?_⟩
        refine .inl ⟨f, a.k (Kt.same sm), fok.2 f (List.mem_of_getElem? hf), fun A3 off hX3 => ⟨_, rfl, Off.same sm nx off, ?_⟩⟩
        rw [← puts_take hf]
        exact hX3
      · obtain ⟨v4, rfl, sm, hX'⟩ := hP
        rw [el, List.take_length] at hX'
        obtain ⟨t2, ys, rest, his, ly, l100, rows, more⟩ := id hR
        refine ⟨_, rfl, bq, _, t2, rfl, his.keep sm, fun J2 G2 wk2 hG2 => fun D hD => ?_⟩
        have hD0 : H D = none := sm.free hD
        have rl := run_len (h := h) rs (putsP h st gs)
        refine lc_it (tt := tYes) wk2 (fun i B => Same H B ∧ B D = some (.lst (((runP h (putsP h st gs) rs).1.take i).map V.bl)) ∧ PanelAt K T.C T.HC T.PC B x h (runS h (putsP h st gs) (rs.take i)) ∧ i ≤ ys.length) ⟨same_mut sm hD0, upd_same, hX'.ks (same_new hD), Nat.zero_le _⟩ (fun i B _ h => hG2 _ (his.keep h.1)) (fun i z B B' hi hP2 hY => ?_) (fun B hP2 => ?_)
        · obtain ⟨sB, hBD, hXB, il⟩ := hP2
          obtain ⟨rfl, hz⟩ := hY
          obtain ⟨g1, u1, v1, w1, r1, _⟩ := id hXB
          obtain ⟨dx1, fs1, hh1, hp1, lf1, lk1, gh1, hA1, no1⟩ := id r1
          refine ⟨rfl, yesT ⟨_, rfl, x, dx1, fs1, rfl, hp1, pn_meth "beat" lk1 no1 (by decide +kernel), _, rfl, ?_⟩⟩
          by_cases c : i < ys.length
          · rw [List.getElem?_append_left c] at hz
            obtain ⟨ms, hms⟩ : ∃ ms, rs[i]? = some ms := ⟨rs[i], List.getElem?_eq_getElem (by omega)⟩
            obtain ⟨a, rfl, lv⟩ := rows i z ms hz hms
            refine ⟨x, a, h, _, .good ms, rfl, hXB, ok, lv.ks sB, fun A3 off hX3 => ?_⟩
            have s3 := Off.same sB nx off
            have xD : D ≠ x := fun z => by rw [z, hp1] at hBD; cases hBD
            have hD3 := off _ _ xD hBD
            refine ⟨_, hD3, small_len (by rw [List.length_map, List.length_take]; omega), same_mut s3 hD0, ?_, ?_, c⟩
            · rw [upd_same]
              have e := run_at (h := h) (s := putsP h st gs) hms
              rw [List.take_add_one, e, Option.toList_some, List.map_append]
              rfl
            · rw [← run_take hms]
              exact hX3.lset hD3
          · have ei : i = ys.length := by omega
            rw [List.getElem?_append_right (by omega)] at hz
            have e0 : i - ys.length = 0 := by omega
            rw [e0] at hz
            cases bad with
            | none =>
              rw [show rest = [] from more] at hz
              cases hz
            | some o =>
              obtain ⟨ng, a, r, er, lv⟩ := more
              rw [er] at hz
              cases hz
              refine ⟨x, a, h, _, o, rfl, hXB, ok, lv.ks sB, ?_⟩
              cases o with
              | good ms => exact absurd rfl (ng ms)
              | len j => exact fun H3 dd s3 e3 τ _ => fin H3 dd (sB.trans s3) e3
              | level j => exact fun H3 dd s3 e3 τ _ => fin H3 dd (sB.trans s3) e3
        · obtain ⟨sB, hBD, hXB, il⟩ := hP2
          cases bad with
          | some o =>
            obtain ⟨ng, a, r, er, lv⟩ := more
            rw [er, List.length_append, List.length_cons] at il
            omega
          | none =>
            have er : rest = [] := more
            subst er
            rw [List.append_nil, ly, ← rl, List.take_length] at hBD
            refine ⟨D, _, rfl, .inl ⟨SqL.of hBD, fun u2 hu2 => ?_⟩⟩
            exact fin _ u2 (sB.trans (same_new hu2)) (SqT.of upd_same)
end
end K52

namespace K52
open PySem L2 Wm TL Dv Rm Lo
section
variable {P : Program} {w : World} {K : PySem.W.Frag} {mg : Str → Option Value} {base : Heap}
theorem firstB_some : ∀ {bs : List Bool} {k : Nat}, firstB bs = some k → bs[k]? = some true ∧ ∀ j, j < k → bs[j]? = some false
  | true :: r, k, e => by
    cases e
    exact ⟨rfl, fun j l => absurd l (Nat.not_lt_zero j)⟩
  | false :: r, k, e => by
    obtain ⟨m, hm, rfl⟩ := Option.map_eq_some_iff.mp (show (firstB r).map (· + 1) = some k from e)
    obtain ⟨a, b⟩ := firstB_some hm
    refine ⟨a, fun j l => ?_⟩
    cases j with
    | zero => rfl
    | succ j => exact b j (by omega)
theorem firstB_none : ∀ {bs : List Bool}, firstB bs = none → ∀ (j : Nat) b, bs[j]? = some b → b = false
  | [], _, j, b, h => by cases h
  | true :: r, e, j, b, h => by cases e
  | false :: r, e, j, b, h => by
    cases j with
    | zero => exact (Option.some.inj h).symm
    | succ j => exact firstB_none (Option.map_eq_none_iff.mp (show (firstB r).map (· + 1) = none from e)) j b h
theorem ok_first_warning (T : Txt K mg) : FnOk P w K mg base (L2.CX P w) 9 T.a_first_warning T.d_first_warning ["house", "beats", "faults"] (sp_first_warning K T.C T.HC T.PC T.CF T.CV) := by
  refine T.F_first_warning.ok sc_first_warning (fun vs H Q E h => ?_) (fun cdv A outer s H vs Q E hr h => ?_)
  · obtain ⟨p, bq, fq, h, rfl, _⟩ := h
    rfl
  · obtain ⟨p, bq, fq, h, rfl, hA, ok, alt⟩ := h
    have hl := ok.ri.len
    refine ⟨_, (pss_cons (ps_set (i := 3) sc_first_warning.nd rfl (Or.inl rfl) (pe_make T.mk_pinit (ok_pinit T) (hr.mono (by decide)) (by rfl) T.gPC T.b_pinit .nil pass0 (pa_cons (pv 0) pa_nil)))
      (pss_cons (ps_for (passes_of rfl) rfl (Kd.pi_seq (pv 2)) (pg_name (i := 4) sc_first_warning.nd rfl (Or.inl rfl))
        (pss_one (ps_expr (MS.pe_methS (pv 3) T.clPC T.m_put_fault (ok_put_fault T) (hr.mono (by decide)) T.b_put_fault (fun σ => passAt (takes_of rfl rfl rfl rfl) σ) (by exact (pa_cons (pv 4) pa_nil))))))
      (pss_cons (ps_for (passes_of rfl) rfl (Kd2.pi_or (pi_enum (by rfl) T.z_enumerate (pa_cons (pv 1) pa_nil)) (Es.pi_ent (by rfl) T.z_enumerate (pa_cons (pv 1) pa_nil))) (pg_tup rfl (pgs_cons (pg_name (i := 5) sc_first_warning.nd rfl (Or.inl rfl)) (pgs_cons (pg_name (i := 6) sc_first_warning.nd rfl (Or.inl rfl)) pgs_nil)))
        (pss_one (ps_if (pt_val (MS.pe_methS (pv 3) T.clPC T.m_beat (ok_beat T) (hr.mono (by decide)) T.b_beat (fun σ => passAt (takes_of rfl rfl rfl rfl) σ) (by exact (pa_cons (pv 6) pa_nil))))
          (pss_one (ps_ret (pv 5)))
          pss_nil)))
      (pss_one (ps_ret pe_non))))), ?_⟩
    refine ⟨_, rfl, fun x dy hx hdy ne => ?_⟩
    have sm0 := made (C := T.PC) hx hdy ne
    refine ⟨x, p, dy, h, rfl, upd_same, hA.keep sm0, ok, fun H1 off1 hX => ⟨rfl, ?_⟩⟩
    have s1 := made_off hx hdy ne off1
    have nx : H x = none := hx
    rcases alt with ⟨y, hM, er⟩ | ⟨gs, rs, hF, fok, t2, ys, rest, his, ly, l100, rows, fin⟩
    · obtain ⟨tt, pre, post, fs2, hS, hds, ⟨hf1, hf2⟩, o⟩ := hM
      have el := hds.len
      rw [List.length_map] at el
      refine ⟨_, rfl, fq, _, tt, rfl, hS.keep s1, fun J GG wk hG => ?_⟩
      refine for_it wk (fun i σ A => ∃ v4 s', σ = [some (.ref p), some (.ref bq), some (.ref fq), some (.ref x), v4, none, none] ∧ Same H A ∧ PanelAt K T.C T.HC T.PC A x h s' ∧ i ≤ pre.length) ⟨none, _, rfl, s1, hX, Nat.zero_le _⟩ (fun i σ A _ h => let ⟨_, _, _, s, _⟩ := h; hG _ (hS.keep s)) (fun i y2 σ A A' hi hP hY => ?_) (fun σ A hP => ?_)
      · obtain ⟨v4, s', rfl, sm, hX', ip⟩ := hP
        obtain ⟨rfl, hxi⟩ := hY
        obtain ⟨g1, u1, v1, w1, r1, _⟩ := id hX'
        obtain ⟨dx1, fs1, hh1, hp1, lf1, lk1, gh1, hA1, no1⟩ := id r1
        refine ⟨_, rfl, x, dx1, fs1, rfl, hp1, pn_meth "put_fault" lk1 no1 (by decide +kernel), _, rfl, x, y2, h, s', rfl, hX', ok, ?_⟩
        by_cases c : i < pre.length
        · rw [List.getElem?_append_left c] at hxi
          obtain ⟨f, hf, a⟩ := ft_at hds hxi
          exact .inl ⟨f, a.k (Kt.same sm), hf2 f (List.mem_of_getElem? hf), fun A3 off hX3 => ⟨_, _, rfl, Off.same sm nx off, hX3, c⟩⟩
        · have e : i = pre.length := by omega
          subst e
          rw [List.getElem?_append_right (Nat.le_refl _), Nat.sub_self] at hxi
          have ex : y = y2 := Option.some.inj hxi
          subst ex
          exact .inr ⟨o.k sm, fun H3 dd s3 hd3 => er _ dd (sm.trans s3) hd3⟩
      · obtain ⟨v4, s', rfl, sm, hX', ip⟩ := hP
        rw [List.length_append, List.length_cons] at ip
        omega
    · obtain ⟨tt, xs, hS, hds⟩ := hF
      have el := hds.len
      rw [List.length_map] at el
      refine ⟨_, rfl, fq, _, tt, rfl, hS.keep s1, fun J GG wk hG => ?_⟩
      refine for_it wk (fun i σ A => ∃ v4, σ = [some (.ref p), some (.ref bq), some (.ref fq), some (.ref x), v4, none, none] ∧ Same H A ∧ PanelAt K T.C T.HC T.PC A x h (putsP h (freshP h) (gs.take i))) ⟨none, rfl, s1, hX⟩ (fun i σ A _ h => let ⟨_, _, s, _⟩ := h; hG _ (hS.keep s)) (fun i y2 σ A A' hi hP hY => ?_) (fun σ A hP => ?_)
      · obtain ⟨v4, rfl, sm, hX'⟩ := hP
        obtain ⟨rfl, hxi⟩ := hY
        obtain ⟨g1, u1, v1, w1, r1, _⟩ := id hX'
        obtain ⟨dx1, fs1, hh1, hp1, lf1, lk1, gh1, hA1, no1⟩ := id r1
        obtain ⟨f, hf, a⟩ := ft_at hds hxi
        refine ⟨_, rfl, x, dx1, fs1, rfl, hp1, pn_meth "put_fault" lk1 no1 (by decide +kernel), _, rfl, x, y2, h, _, rfl, hX', ok, ?_⟩
        refine .inl ⟨f, a.k (Kt.same sm), fok.2 f (List.mem_of_getElem? hf), fun A3 off hX3 => ⟨_, rfl, Off.same sm nx off, ?_⟩⟩
        rw [← puts_take hf]
        exact hX3
      · obtain ⟨v4, rfl, sm, hX'⟩ := hP
        rw [el, List.take_length] at hX'
        have rl := run_len (h := h) rs (putsP h (freshP h) gs)
        refine or_enum rfl (his.keep sm) fun J2 G2 wk2 hG2 => ?_
        refine for_it wk2 (fun i σ B => ∃ v5 v6, σ = [some (.ref p), some (.ref bq), some (.ref fq), some (.ref x), v4, v5, v6] ∧ Same H B ∧ PanelAt K T.C T.HC T.PC B x h (runS h (putsP h (freshP h) gs) (rs.take i)) ∧ ∀ k, firstW h (putsP h (freshP h) gs) rs = some k → i ≤ k) ⟨none, none, rfl, sm, hX', fun k _ => Nat.zero_le _⟩ (fun i σ B _ h => let ⟨_, _, _, s, _⟩ := h; hG2 _ (his.keep s)) (fun i z σ B B' hi hP2 hY => ?_) (fun σ B hP2 => ?_)
        · obtain ⟨v5, v6, rfl, sB, hXB, ik⟩ := hP2
          obtain ⟨Tt, a0, y, rfl, hT, rfl, hai, hyi⟩ := hY
          cases Option.some.inj hai
          have hyi : (ys ++ rest)[i]? = some y := hyi
          have sT := sB.trans (same_new (o := .tup [V.int ((i : Nat) : Int), y]) hT)
          have iy : i < ys.length := by
            by_cases c : i < ys.length
            · exact c
            · exfalso
              rcases fin with ⟨_, er, _⟩ | ⟨k, hk, _⟩
              · subst er
                rw [List.append_nil] at hi
                exact c hi
              · have a := ik k hk
                have b := (firstB_some hk).1
                have := (List.getElem?_eq_some_iff.mp b).1
                omega
          rw [List.getElem?_append_left iy] at hyi
          obtain ⟨ms, hms⟩ : ∃ ms, rs[i]? = some ms := ⟨rs[i], List.getElem?_eq_getElem (by omega)⟩
          obtain ⟨a, rfl, lv⟩ := rows i y ms hyi hms
          have hXT := hXB.ks (same_new (o := .tup [V.int ((i : Nat) : Int), .ref a]) hT)
          obtain ⟨g1, u1, v1, w1, r1, _⟩ := id hXT
          obtain ⟨dx1, fs1, hh1, hp1, lf1, lk1, gh1, hA1, no1⟩ := id r1
          refine ⟨Tt, _, rfl, SqT.of upd_same, rfl, _, _, rfl, _, _, rfl, rfl, ?_⟩
          refine ⟨_, rfl, x, dx1, fs1, rfl, hp1, pn_meth "beat" lk1 no1 (by decide +kernel), _, rfl, x, a, h, _, .good ms, rfl, hXT, ok, lv.ks sT, fun A3 off hX3 => ?_⟩
          have s3 := Off.same sT nx off
          have e := run_at (h := h) (s := putsP h (freshP h) gs) hms
          cases wn : warns h (runS h (putsP h (freshP h) gs) (rs.take i)) ms with
          | true =>
            rw [wn] at e
            refine ⟨true, rfl, iteT ⟨_, rfl, ?_⟩⟩
            rcases fin with ⟨hn, _, _⟩ | ⟨k, hk, kk⟩
            · exact absurd (firstB_none hn i true e) (by decide)
            · have a := ik k hk
              have ek : i = k := by
                by_cases c : i < k
                · have := (firstB_some hk).2 i c
                  rw [e] at this
                  cases this
                · omega
              rw [ek]
              exact kk _ s3
          | false =>
            rw [wn] at e
            refine ⟨false, rfl, iteF ⟨_, _, rfl, s3, ?_, fun k hk => ?_⟩⟩
            · rw [← run_take hms]
              exact hX3
            · have a := ik k hk
              by_cases c : i = k
              · have := (firstB_some hk).1
                rw [← c, e] at this
                cases this
              · omega
        · obtain ⟨v5, v6, rfl, sB, hXB, ik⟩ := hP2
          rcases fin with ⟨_, _, kk⟩ | ⟨k, hk, _⟩
          · exact kk _ sB
          · exfalso
            have a := ik k hk
            have b := (firstB_some hk).1
            have := (List.getElem?_eq_some_iff.mp b).1
            rw [List.length_append] at a
            omega
end
end K52

namespace K52
open PySem L2 Wm TL Dv Rm Lo
section
variable {P : Program} {w : World} {K : PySem.W.Frag} {mg : Str → Option Value} {base : Heap}
theorem cut_to (xs : List V) (z : Nat) (h : z ≤ xs.length) : cutV xs none (some (z : Int)) = xs.take z := by
  unfold cutV
  rw [HT.sIx_nat, HT.sIx_none, Nat.min_eq_left h, List.drop_zero, Nat.sub_zero]
theorem int_dts {H : Hp} (is : List Int) : Dts K H (is.map V.int) (is.map PyData.int) := by
  induction is with
  | nil => exact .nil
  | cons i r ih => exact .cons (.int i) ih
theorem rep_dts {H : Hp} {x : V} {d : PyData} (h : Dt K H x d) : ∀ n : Nat, Dts K H (List.replicate n [x]).flatten (List.replicate n d)
  | 0 => .nil
  | n + 1 => by
    rw [List.replicate_succ, List.replicate_succ, List.flatten_cons]
    exact .cons h (rep_dts h n)
theorem ok_false_levels (T : Txt K mg) : FnOk P w K mg base (L2.CX P w) 6 T.a_false_levels T.d_false_levels ["house", "faults"] (sp_false_levels K T.C T.HC T.CF) := by
  refine T.F_false_levels.ok sc_false_levels (fun vs H Q E h => ?_) (fun cdv A outer s H vs Q E hr h => ?_)
  · obtain ⟨p, fq, h, rfl, _⟩ := h
    rfl
  · obtain ⟨p, fq, h, rfl, hA, ok, alt⟩ := h
    have hl := ok.ri.len
    have cl : h.l.count true ≤ h.l.length := List.count_le_length
    have n1 := ok.n1
    have nl := ok.nl
    have r1' := ok.r1
    have r8' := ok.r8
    obtain ⟨dh, fh, rq, hhp, l1, l2, l3, l4, l5, l6, l7, l8, rr⟩ := id hA
    obtain ⟨dq, fq', yq, hq, m1, m2, m3, m4, m5⟩ := id rr
    refine ⟨_, (pss_cons (ps_set (i := 2) sc_false_levels.nd rfl (Or.inl rfl) (MS.pe_methS (pe_fld (pv 0) rfl) T.clC T.m_reached (ok_reached T) (hr.mono (by decide)) T.b_reached (fun σ => passAt (takes_of rfl rfl rfl rfl) σ) (by exact (pa_cons (pv 1) pa_nil))))
      (pss_cons (ps_if (pt_cmpR op_lt (pe_callB call_len_seq (by rfl) T.z_len PySem.boot_len (pa_cons (pv 2) pa_nil)) (pe_fld (pv 0) rfl) (nomark _))
        (pss_one (ps_ret pe_non))
        pss_nil)
      (C8.pss_cut (ps_set (i := 3) sc_false_levels.nd rfl (Or.inr rfl) (pe_slice sl_tupA (pv 2) po_none (po_some (pe_fld (pv 0) rfl))))
      (pss_cons (ps_set (i := 4) sc_false_levels.nd rfl (Or.inl rfl) (pe_callTy call_tuple_of (by rfl) T.z_tuple (by decide +kernel) (pa_cons (pe_lc (own := [("seeker", 5)]) (g := gName 5) (tt := tYes) rfl sc_false_levels.nd (pi_range1 (by rfl) T.z_range (pa_cons (pe_fld (pv 0) rfl) pa_nil)) (blkOk_by (own := [("seeker", 5)]) (N := nm_false_levels) (sc := (defScope s_false_levels)) (by decide +kernel)) (fun _ _ _ _ _ => pg_name (i := 5) sc_false_levels.nd rfl (Or.inl rfl)) (fun _ _ _ _ _ => pts_nil) (fun _ _ _ _ _ => (pe_ifExp (pt_cmpR (show OpR _ _ (rIn K false) from op_in_seq) (pv 5) (pv 3) rfl) (pe_op op_add (show PE _ _ (tFld K (tVar 0) "mark") from by exact (pe_fld (pv 0) rfl)) pe_int) (show PE _ _ (tFld K (tVar 0) "mark") from by exact (pe_fld (pv 0) rfl))))) pa_nil)))
      (pss_one (ps_ret (pe_op Tu1.op_repB (pe_tup (pa_cons (pv 4) pa_nil)) (pe_fld (pv 0) rfl)))))))), ?_⟩
    refine ⟨_, rfl, p, T.HC, dh, fh, _, rfl, hhp, T.clHC, T.nLa, l6, rq, dq, fq', rfl, hq, no_meth "reached" (by decide +kernel) (by decide +kernel) (by decide +kernel) m4, _, rfl, rq, fq, h.l, rfl, rr, hl, ?_⟩
    rcases alt with ⟨x, hM, er⟩ | ⟨gs, hF, fok, alt⟩
    · exact .inr ⟨x, hM, er⟩
    refine .inl ⟨gs, hF, fok, fun H1 r s1 nr hr => ?_⟩
    have hl1 : (nV (heardL h.l (opn h.l gs))).length = (heardL h.l (opn h.l gs)).length := by unfold nV; rw [List.length_map]
    have hle : (heardL h.l (opn h.l gs)).length ≤ h.l.count true := by unfold heardL; exact Nat.le_trans (List.length_filter_le _ _) (by rw [List.length_range]; exact Nat.le_refl _)
    refine ⟨_, rfl, r, _, rfl, .inr (SqT.of hr), _, rfl, p, T.HC, dh, fh, _, rfl, s1 _ _ hhp, T.clHC, T.nNe, l5, _, _, rfl, rfl, _, rfl, ?_⟩
    dsimp only
    rw [hl1]
    rcases alt with ⟨lt, kk⟩ | ⟨ge, kk⟩
    · rw [decide_eq_true (by omega)]
      exact iteT (kk _ s1)
    rw [decide_eq_false (by omega)]
    refine iteF ?_
    refine ⟨fun σ B => ∃ w, σ = [some (.ref p), some (.ref fq), some (.ref r), some (.ref w), none, none] ∧ Same H B ∧ SqT K B w (nV ((heardL h.l (opn h.l gs)).take h.n)), ?_, ?_⟩
    · refine ⟨_, rfl, _, rfl, p, T.HC, dh, fh, _, rfl, s1 _ _ hhp, T.clHC, T.nNe, l5, _, rfl, r, _, rfl, SqT.of hr, fun wh => ?_, fun _ u hu => ?_⟩
      · refine ⟨r, rfl, s1, ?_⟩
        have e2 := wh.2
        rw [HT.sIx_nat, hl1] at e2
        rw [List.take_of_length_le (by omega)]
        exact SqT.of hr
      · refine ⟨u, rfl, s1.trans (same_new hu), ?_⟩
        rw [cut_to _ _ (by omega), show (nV (heardL h.l (opn h.l gs))).take h.n = nV ((heardL h.l (opn h.l gs)).take h.n) from (List.map_take ..).symm]
        exact SqT.of upd_same
    rintro σ B ⟨w, rfl, sB, hw⟩
    refine ⟨_, rfl, p, T.HC, dh, fh, _, rfl, sB _ _ hhp, T.clHC, T.nSk, l7, _, rfl, by omega, by omega, fun D hD => ?_⟩
    rw [Int.toNat_natCast]
    refine Lm.lc_any walk_range (fun i y _ => ((falseL h gs).map V.int)[i]? = some y) (fun _ _ _ _ _ e _ _ => e) (fun i A x A' y => by obtain ⟨rfl, _⟩ := y; exact Same.refl _) hD (by omega) (fun A s => trivial) (fun i x A A' hi sm _ hY Q2 Z q2 => ?_) (fun A ys sm hy ly hR => ?_)
    · obtain ⟨rfl, rfl⟩ := hY
      have ez : V.int (0 + ((i : Nat) : Int)) = V.int ((i : Nat) : Int) := by rw [Int.zero_add]
      show gName 5 (V.int (0 + ((i : Nat) : Int))) _ _ _
      rw [ez]
      have at' : ((falseL h gs).map V.int)[i]? = some (.int (if i ∈ (heardL h.l (opn h.l gs)).take h.n then h.m + 1 else h.m)) := by
        unfold falseL
        rw [List.getElem?_map, List.getElem?_map, List.getElem?_range hi]
        rfl
      have sA := sB.trans sm
      refine ⟨rfl, yesT ?_⟩
      refine ⟨_, rfl, _, rfl, w, _, rfl, .inr (sameT sm hw), rfl, nV_flat _, ?_⟩
      rw [show (if false = true then !inV (V.int ((i : Nat) : Int)) (nV ((heardL h.l (opn h.l gs)).take h.n)) else inV (V.int ((i : Nat) : Int)) (nV ((heardL h.l (opn h.l gs)).take h.n))) = decide (i ∈ (heardL h.l (opn h.l gs)).take h.n) from inV_nats _ _]
      by_cases c : i ∈ (heardL h.l (opn h.l gs)).take h.n
      · rw [if_pos c] at at'
        rw [decide_eq_true c]
        exact ⟨_, rfl, iteT ⟨_, rfl, p, T.HC, dh, fh, _, rfl, sA _ _ hhp, T.clHC, T.nMa, l3, _, _, rfl, rfl, q2 _ _ (Same.refl _) at'⟩⟩
      · rw [if_neg c] at at'
        rw [decide_eq_false c]
        exact ⟨_, rfl, iteF ⟨_, rfl, p, T.HC, dh, fh, _, rfl, sA _ _ hhp, T.clHC, T.nMa, l3, q2 _ _ (Same.refl _) at'⟩⟩
    · have fl : (falseL h gs).length = h.l.count true := by unfold falseL; rw [List.length_map, List.length_range]
      have ey : ys = (falseL h gs).map V.int := Lm.list_is (by rw [List.length_map]; omega) fun i y e => hR i y e
      rw [ey] at hy
      refine ⟨D, _, rfl, .inl ⟨SqL.of hy, fun u hu => ?_⟩⟩
      have s4 := (sB.trans sm).trans (same_new (o := .tup ((falseL h gs).map V.int)) hu)
      have du : Dt K (upd A u (.tup ((falseL h gs).map V.int))) (.ref u) (.tuple ((falseL h gs).map PyData.int)) := dt_tup upd_same (int_dts _)
      generalize upd A u (.tup ((falseL h gs).map V.int)) = A4 at *
      refine ⟨_, rfl, small_len (by show 1 ≤ 100000; decide), fun t ht => ?_⟩
      have s5 := same_new (o := .tup [.ref u]) ht
      refine ⟨_, rfl, p, T.HC, dh, fh, _, rfl, (s4.trans s5) _ _ hhp, T.clHC, T.nRo, l4, t, h.r, [V.ref u], rfl, rfl, SqT.of upd_same, by simp, r1', by omega, by show 1 ≤ 1000; decide, fun w2 H2 s6 hw2 => ?_⟩
      exact kk H2 w2 ((s4.trans s5).trans s6) (.tup hw2 (rep_dts (du.k (Kt.same (s5.trans s6))) _))
end
end K52

namespace K52
open PySem L2 Wm TL Dv Rm Lo
section
variable {P : Program} {w : World} {K : PySem.W.Frag} {mg : Str → Option Value} {base : Heap}
def PlanAt (K : PySem.W.Frag) (H : Hp) (u : Addr) (h : Hs) : Prop := SqT K H u [.str (rgS h.l), .int h.m, .int h.r, .int ((h.n : Nat) : Int)]
/-- the law's own plain panel -/
def ModelAt (K : PySem.W.Frag) (H : Hp) (mm : Addr) (M : List Ft) (cs : List Nat) (al : Bool) : Prop := ∃ f c xs, H mm = some (.lst [.ref f, .ref c, .bl al]) ∧ H f = some (.lst xs) ∧ Dts K H xs (M.map ftD) ∧ H c = some (.lst (nV cs))
structure Pair (K : PySem.W.Frag) (C HC PC : Addr) (H : Hp) (p mm : Addr) (h : Hs) (s : Ps) (M : List Ft) : Prop where
  pan : PanelAt K C HC PC H p h s
  mod : ModelAt K H mm M s.cs s.al
  nrm : s.fs = norm h.l M
  nd : M.Nodup
  dom : ∀ f ∈ M, f.2 ≤ h.l.length
def sp_levels (K : PySem.W.Frag) : Sp := fun vs H Q _ => ∃ (b : Addr) (n : Nat) (m : Int) (many : Nat), vs = [.ref b, .int m, .int ((many : Nat) : Int)] ∧ many ≤ 10 ∧ Bg H b n ∧ n ≤ 900000 ∧
  ∀ H' r (ms : List Int), H r = none → ms.length = many → H' r = some (.lst (ms.map V.int)) → Bg H' b (n + 1 + 3 * many) → Bt b H H' → Q (.ref r) H'
def sp_step (K : PySem.W.Frag) : Sp := fun vs H Q _ => ∃ (u f c lv : Addr) (al : Bool) (h : Hs) (M : List Ft) (cs : List Nat) (ms : List Int), vs = [.ref u, .ref f, .ref c, .bl al, .ref lv] ∧ PlanAt K H u h ∧ h.l.length ≤ 10 ∧ FtsAt K H f M ∧ FOk h.l.length M ∧ SqL K H c (nV cs) ∧ cs.length = h.l.count true ∧ SqL K H lv (ms.map V.int) ∧ ms.length = h.l.count true ∧
  ∀ H' t r, Same H H' → H r = none → H' r = some (.lst (nV (stepC h M cs ms))) → SqT K H' t [.bl (alarm h (stepC h M cs ms) && !al), .ref r, .bl (alarm h (stepC h M cs ms))] → Q (.ref t) H'
def sp_ordered (K : PySem.W.Frag) : Sp := fun vs H Q _ => ∃ (f : Addr) (l : List Bool) (M : List Ft), vs = [.str (rgS l), .ref f] ∧ l.length ≤ 10 ∧ FtsAt K H f M ∧ ∀ H' u, Same H H' → Dt K H' (.ref u) (.tuple ((norm l M).map ftD)) → Q (.ref u) H'
def sp_same (K : PySem.W.Frag) (C HC PC : Addr) : Sp := fun vs H Q _ => ∃ (p u mm : Addr) (h : Hs) (s : Ps) (M : List Ft), vs = [.ref p, .ref u, .ref mm] ∧ PlanAt K H u h ∧ HsOk h ∧ Pair K C HC PC H p mm h s M ∧ ∀ H', Same H H' → Q (.bl true) H'
def sp_run (K : PySem.W.Frag) : Sp := fun vs H Q _ => ∃ (u mm f bts : Addr) (h : Hs) (M F : List Ft) (cs : List Nat) (al : Bool) (xs ys : List V) (rs : List (List Int)), vs = [.ref u, .ref mm, .ref f, .ref bts] ∧ PlanAt K H u h ∧ HsOk h ∧ ModelAt K H mm M cs al ∧ H f = some (.lst xs) ∧ Dts K H xs (F.map ftD) ∧ FOk h.l.length (M ++ F) ∧ cs.length = h.l.count true ∧
  H bts = some (.lst ys) ∧ ys.length = rs.length ∧ rs.length ≤ 50 ∧ (∀ (i : Nat) x ms, ys[i]? = some x → rs[i]? = some ms → ms.length = h.l.count true ∧ ∃ a, x = .ref a ∧ SqL K H a (ms.map V.int)) ∧
  ∀ H' t, Same H H' → Tf.TF H' t ((runP h ⟨M ++ F, cs, al⟩ rs).1.map V.bl) → Q (.ref t) H'
def sp_ltried (K : PySem.W.Frag) (C HC PC : Addr) : Sp := fun vs H Q _ => ∃ (p fq bq : Addr) (h : Hs) (s : Ps), vs = [.ref p, .ref fq, .ref bq] ∧ PanelAt K C HC PC H p h s ∧ HsOk h ∧
  ((∃ x, MixAt K H fq h.l.length x ∧ ∀ H' u, Same H H' → H' u = some (.tup [.str "fault", x]) → Q (.ref u) H') ∨
   ∃ fs rs bad, FtsAt K H fq fs ∧ FOk h.l.length fs ∧ RowsIs K H bq (h.l.count true) rs bad ∧ match bad with
    | none => ∀ H' u, Same H H' → SqT K H' u ((runP h (putsP h s fs) rs).1.map V.bl) → Q (.ref u) H'
    | some (.len k) => ∀ H' u, Same H H' → H' u = some (.tup [.str "length", .int ((k : Nat) : Int)]) → Q (.ref u) H'
    | some (.level k) => ∀ H' u, Same H H' → H' u = some (.tup [.str "level", .int ((k : Nat) : Int)]) → Q (.ref u) H'
    | some (.good _) => False)
def sp_trial (K : PySem.W.Frag) (C HC PC : Addr) : Sp := fun vs H Q _ => ∃ (b p u mm : Addr) (n : Nat) (h : Hs) (s : Ps) (M : List Ft), vs = [.ref b, .ref p, .ref u, .ref mm] ∧ Bg H b n ∧ n ≤ 800000 ∧ PlanAt K H u h ∧ HsOk h ∧ Pair K C HC PC H p mm h s M ∧ ∀ H', Bg H' b (n + 300) → Bt b H H' → Q (.bl true) H'
def sp_wrong (K : PySem.W.Frag) (C HC PC : Addr) : Sp := fun vs H Q _ => ∃ (b p u mm : Addr) (n : Nat) (h : Hs) (s : Ps) (M : List Ft), vs = [.ref b, .ref p, .ref u, .ref mm] ∧ Bg H b n ∧ n ≤ 900000 ∧ PlanAt K H u h ∧ HsOk h ∧ Pair K C HC PC H p mm h s M ∧ ∀ H', Bg H' b (n + 1) → Bt b H H' → Q (.bl true) H'
def sp_mended (K : PySem.W.Frag) (C HC PC : Addr) : Sp := fun vs H Q _ => ∃ (p : Addr) (x : V) (h : Hs) (s : Ps) (f : Ft), vs = [.ref p, x] ∧ PanelAt K C HC PC H p h s ∧ HsOk h ∧ Dt K H x (ftD f) ∧ f.2 ≤ h.l.length ∧
  ((f ∈ s.fs ∧ ∀ H', Off p H H' → PanelAt K C HC PC H' p h ⟨norm h.l (s.fs.filter fun g => !decide (g = f)), s.cs, s.al⟩ → Q (.str "mended") H') ∨ (f ∉ s.fs ∧ ∀ H', Same H H' → Q x H'))
def sp_deed (K : PySem.W.Frag) (C HC PC : Addr) : Sp := fun vs H Q _ => ∃ (b p u mm : Addr) (n : Nat) (h : Hs) (s : Ps) (M : List Ft), vs = [.ref b, .ref p, .ref u, .ref mm] ∧ Bg H b n ∧ n ≤ 700000 ∧ PlanAt K H u h ∧ HsOk h ∧ Pair K C HC PC H p mm h s M ∧
  ∀ H' s' M', Bg H' b (n + 400) → (∀ q o, q ≠ b → q ≠ p → q ≠ mm → H q = some o → H' q = some o) → Pair K C HC PC H' p mm h s' M' → Q (.bl true) H'
def sp_silent (K : PySem.W.Frag) (C HC PC : Addr) : Sp := fun vs H Q _ => ∃ (p : Addr) (x : V) (h : Hs), vs = [.ref p, x] ∧ HouseAt K C HC H p h ∧ HsOk h ∧ Odd K H h.l.length x ∧ ∀ H' r, Same H H' → H' r = some (.lst [x, x, x]) → Q (.ref r) H'
/-- rows of good levels in a list -/
def BeatsAt (K : PySem.W.Frag) (H : Hp) (bts : Addr) (n : Nat) (rs : List (List Int)) : Prop := ∃ ys, H bts = some (.lst ys) ∧ ys.length = rs.length ∧ rs.length ≤ 50 ∧ ∀ (i : Nat) x ms, ys[i]? = some x → rs[i]? = some ms → ms.length = n ∧ ∃ a, x = .ref a ∧ SqL K H a (ms.map V.int)
def sp_left_out (K : PySem.W.Frag) (C HC PC : Addr) : Sp := fun vs H Q _ => ∃ (b p u bts : Addr) (n : Nat) (h : Hs) (rs : List (List Int)), vs = [.ref b, .ref p, .ref u, .ref bts] ∧ Bg H b n ∧ n ≤ 800000 ∧ PlanAt K H u h ∧ HsOk h ∧ HouseAt K C HC H p h ∧ BeatsAt K H bts (h.l.count true) rs ∧ ∀ H', Bg H' b (n + 1) → Bt b H H' → Q (.bl true) H'
def sp_least (K : PySem.W.Frag) (C HC PC : Addr) : Sp := fun vs H Q _ => ∃ (b p u : Addr) (n : Nat) (h : Hs), vs = [.ref b, .ref p, .ref u] ∧ Bg H b n ∧ n ≤ 800000 ∧ PlanAt K H u h ∧ HsOk h ∧ HouseAt K C HC H p h ∧ ∀ H', Bg H' b (n + 100) → Bt b H H' → Q (.bl true) H'
def sp_law (K : PySem.W.Frag) : Sp := fun vs H Q _ => ∃ (a : Addr) (ns : List Int), vs = [.ref a] ∧ SqL K H a (ns.map V.int) ∧ ns.length ≤ 63 ∧ ∀ H', Q (.bl true) H'
end
end K52

namespace K52
open PySem L2 Wm TL Dv Rm Lo
section
variable {P : Program} {w : World} {K : PySem.W.Frag} {mg : Str → Option Value} {base : Heap}
theorem ok_levels (T : Txt K mg) : FnOk P w K mg base CX0 2 T.a_levels T.d_levels ["_law_state", "_law_bar", "_law_many"] (sp_levels K) := by
  refine T.F_levels.ok sc_levels (fun vs H Q E h => ?_) (fun cdv A outer s H vs Q E hr h => ?_)
  · obtain ⟨b, n, m, many, rfl, _⟩ := h
    rfl
  · obtain ⟨b, n, m, many, rfl, hm, hbag, hn, kk⟩ := h
    refine ⟨_, (pss_cons (ps_set (i := 3) sc_levels.nd rfl (Or.inl rfl) (pe_lst pa_nil))
      (pss_cons (ps_set (i := 4) sc_levels.nd rfl (Or.inl rfl) (pe_cmpR op_gt (pe_call (ok_draw T) (hr.mono (by decide)) (by rfl) T.g_draw T.F_draw.kp T.b_draw .nil pass0 (pa_cons (pv 0) (pa_cons pe_int pa_nil))) pe_int (nomark _)))
      (pss_cons (ps_for PassesOwn.never rfl (pi_range1 (by rfl) T.z_range (pa_cons (pv 2) pa_nil)) (pg_name (i := 5) sc_levels.nd rfl (Or.inl rfl))
        (pss_cons (ps_set (i := 6) sc_levels.nd rfl (Or.inl rfl) (pe_call (ok_draw T) (hr.mono (by decide)) (by rfl) T.g_draw T.F_draw.kp T.b_draw .nil pass0 (pa_cons (pv 0) (pa_cons pe_int pa_nil))))
        (pss_one (ps_if (pt_cmpR op_eq (pv 6) pe_int (nomark _))
          (pss_one (ps_expr (pe_bm PySem.F.plainAttrs_list PySem.F.slot_list_append PySem.F.type_list_append mt_append (pv 3) (pa_cons (pv 1) pa_nil))))
          (pss_one (ps_if (pt_cmpR op_eq (pv 6) pe_int (nomark _))
            (pss_one (ps_expr (pe_bm PySem.F.plainAttrs_list PySem.F.slot_list_append PySem.F.type_list_append mt_append (pv 3) (pa_cons (pe_op op_add (pv 1) (pe_op op_mulX (pe_call (ok_draw T) (hr.mono (by decide)) (by rfl) T.g_draw T.F_draw.kp T.b_draw .nil pass0 (pa_cons (pv 0) (pa_cons (pe_op op_add (pe_op op_pow pe_int pe_int) pe_int) pa_nil))) (pe_op op_sub (pe_op op_mul pe_int (pe_call (ok_draw T) (hr.mono (by decide)) (by rfl) T.g_draw T.F_draw.kp T.b_draw .nil pass0 (pa_cons (pv 0) (pa_cons pe_int pa_nil)))) pe_int))) pa_nil))))
            (pss_one (ps_expr (pe_bm PySem.F.plainAttrs_list PySem.F.slot_list_append PySem.F.type_list_append mt_append (pv 3) (pa_cons (pe_ifExp (pt_val (pv 4)) (pe_op op_add (pv 1) pe_int) (pe_op op_sub (pv 1) pe_int)) pa_nil))))))))))
      (pss_one (ps_ret (pv 3)))))), ?_⟩
    refine ⟨small_len (by show 0 ≤ 100000; decide), fun D hD => ?_⟩
    have Db := hbag.off hD
    have s1 := same_new (o := .lst []) hD
    refine ⟨_, rfl, b, n, 3, rfl, by decide, by decide, hbag.keep s1, by omega, fun H2 d g0 g1 bag2 but2 => ?_⟩
    refine ⟨_, _, rfl, rfl, ?_⟩
    dsimp only
    generalize decide ((0 : Int) < d) = hot
    refine ⟨_, rfl, _, rfl, by omega, by omega, ?_⟩
    rw [Int.toNat_natCast]
    have but02 := (Bt.of (b := b) s1).trans but2
    refine for_range (fun i σ A => ∃ (ms : List Int) (vk v6 : Option V), σ = [some (.ref b), some (.int m), some (.int ((many : Nat) : Int)), some (.ref D), some (.bl hot), vk, v6] ∧ ms.length = i ∧ A D = some (.lst (ms.map V.int)) ∧ Bg A b (n + 1 + 3 * i) ∧ Bt b H A)
      ⟨[], none, none, rfl, rfl, but2.keep _ _ Db upd_same, bag2, but02⟩ (fun i σ A hi hP => ?_) (fun σ A hP => ?_)
    · obtain ⟨ms, vk, v6, rfl, el, hAD, bag, but⟩ := hP
      have hi : i < many := hi
      have fin : ∀ {B : Hp} {k : Nat} (z : Int), B D = some (.lst (ms.map V.int)) → Bg B b k → k ≤ n + 1 + 3 * (i + 1) → Bt b H B → ((ms ++ [z]).length = i + 1 ∧ (upd B D (.lst (ms.map V.int ++ [V.int z]))) D = some (.lst ((ms ++ [z]).map V.int)) ∧ Bg (upd B D (.lst (ms.map V.int ++ [V.int z]))) b (n + 1 + 3 * (i + 1)) ∧ Bt b H (upd B D (.lst (ms.map V.int ++ [V.int z])))) := fun {B k} z hB bg lk bt =>
        ⟨by rw [List.length_append, el]; rfl, by rw [upd_same, List.map_append]; rfl, (hbag.put hD bt bg).mono lk, bt.put hD⟩
      have ls : (ms.map V.int).length < sizeLine := by rw [List.length_map]; exact small1000 (by omega)
      refine ⟨_, rfl, b, _, 8, rfl, by decide, by decide, bag, by omega, fun B1 d1 e0 e1 bag1 but1 => ?_⟩
      have hB1 := but1.keep _ _ Db hAD
      have bt1 := but.trans but1
      refine ⟨_, rfl, rfl, _, rfl, ite2 (fun c => ?_) (fun c => ?_)⟩
      · obtain ⟨f1, f2, f3, f4⟩ := fin m hB1 bag1 (by omega) bt1
        exact ⟨_, rfl, .inl ⟨rfl, _, SqL.of hB1⟩, _, rfl, D, _, _, rfl, rfl, hB1, ls, ms ++ [m], _, _, rfl, f1, f2, f3, f4⟩
      refine ⟨_, rfl, rfl, _, rfl, ite2 (fun c2 => ?_) (fun c2 => ?_)⟩
      · refine ⟨_, rfl, .inl ⟨rfl, _, SqL.of hB1⟩, _, rfl, _, rfl, _, _, rfl, rfl, ⟨by decide, by decide, by decide⟩, _, _, rfl, rfl, b, _, _, rfl, by decide, by decide, bag1, by omega, fun B2 d2 w0 w1 bag2 but2 => ?_⟩
        have big : (10 : Int) ^ (20 : Int).toNat = 100000000000000000000 := by decide +kernel
        have big2 : (2 : Nat) ^ 67 = 147573952589676412928 := by decide +kernel
        rw [big] at w1
        refine ⟨_, rfl, b, _, 2, rfl, by decide, by decide, bag2, by omega, fun B3 d3 v0 v1 bag3 but3 => ?_⟩
        have hB3 := but3.keep _ _ Db (but2.keep _ _ Db hB1)
        refine ⟨_, _, rfl, rfl, .inl ⟨by omega, by omega⟩, _, _, rfl, rfl, _, _, rfl, rfl, mulx_ok (a := 67) (b := 2) (by omega) (by omega) (by decide), _, _, rfl, rfl, ?_⟩
        obtain ⟨f1, f2, f3, f4⟩ := fin (m + d2 * (2 * d3 - 1)) hB3 bag3 (by omega) ((bt1.trans but2).trans but3)
        exact ⟨D, _, _, rfl, rfl, hB3, ls, ms ++ [m + d2 * (2 * d3 - 1)], _, _, rfl, f1, f2, f3, f4⟩
      · cases hot with
        | true =>
          obtain ⟨f1, f2, f3, f4⟩ := fin (m + 1) hB1 bag1 (by omega) bt1
          exact ⟨_, rfl, .inl ⟨rfl, _, SqL.of hB1⟩, _, rfl, _, rfl, iteT ⟨_, rfl, _, _, rfl, rfl, D, _, _, rfl, rfl, hB1, ls, ms ++ [m + 1], _, _, rfl, f1, f2, f3, f4⟩⟩
        | false =>
          obtain ⟨f1, f2, f3, f4⟩ := fin (m - 1) hB1 bag1 (by omega) bt1
          exact ⟨_, rfl, .inl ⟨rfl, _, SqL.of hB1⟩, _, rfl, _, rfl, iteF ⟨_, rfl, _, _, rfl, rfl, D, _, _, rfl, rfl, hB1, ls, ms ++ [m - 1], _, _, rfl, f1, f2, f3, f4⟩⟩
    · obtain ⟨ms, vk, v6, rfl, el, hAD, bag, but⟩ := hP
      exact ⟨_, rfl, kk _ D ms hD el hAD bag but⟩
end
end K52

namespace K52
open PySem L2 Wm TL Dv Rm Lo
section
variable {P : Program} {w : World} {K : PySem.W.Frag} {mg : Str → Option Value} {base : Heap}
theorem got {H H1 : Hp} {p : Addr} {o : HO} (x : upd H p o = H1) (n : H p = none) : Same H H1 ∧ H1 p = some o := by
  subst x
  exact ⟨same_new n, upd_same⟩
theorem nV_snoc' (xs : List Nat) (x : Nat) : nV xs ++ [V.int ((x : Nat) : Int)] = nV (xs ++ [x]) := by
  unfold nV
  rw [List.map_append]
  rfl
theorem nV_get {cs : List Nat} {j : Nat} (hj : j < cs.length) : (nV cs)[j]? = some (.int ((cs.getD j 0 : Nat) : Int)) := by
  unfold nV
  rw [List.getElem?_map, List.getElem?_eq_getElem hj]
  show some (V.int ((cs[j] : Nat) : Int)) = _
  rw [List.getD_eq_getElem?_getD, List.getElem?_eq_getElem hj]
  rfl
theorem ms_get {ms : List Int} {j : Nat} (hj : j < ms.length) : (ms.map V.int)[j]? = some (.int (ms.getD j 0)) := by
  rw [List.getElem?_map, List.getElem?_eq_getElem hj]
  show some (V.int ms[j]) = _
  rw [List.getD_eq_getElem?_getD, List.getElem?_eq_getElem hj]
  rfl
def cell (h : Hs) (fs : List Ft) (cs : List Nat) (ms : List Int) (j : Nat) : Nat := if decide (j ∈ heardL h.l (opn h.l fs)) && decide (h.m < ms.getD j 0) then cs.getD j 0 + 1 else 0
theorem step_take {h : Hs} {fs : List Ft} {cs : List Nat} {ms : List Int} {i : Nat} (hi : i < h.l.count true) : (stepC h fs cs ms).take (i + 1) = (stepC h fs cs ms).take i ++ [cell h fs cs ms i] := by
  have e : (stepC h fs cs ms)[i]? = some (cell h fs cs ms i) := by
    unfold stepC
    rw [List.getElem?_map, List.getElem?_range hi]
    rfl
  rw [List.take_add_one, e]
  rfl
theorem ok_step (T : Txt K mg) : FnOk P w K mg base CX0 5 T.a_step T.d_step ["_law_plan", "_law_faults_here", "_law_counts", "_law_alarmed", "_law_levels_here"] (sp_step K) := by
  refine T.F_step.ok sc_step (fun vs H Q E h => ?_) (fun cdv A outer s H vs Q E hr h => ?_)
  · obtain ⟨u, f, c, lv, al, h, M, cs, ms, rfl, _⟩ := h
    rfl
  · obtain ⟨u, f, c, lv, al, h, M, cs, ms, rfl, hu, hl, hF, fok, hc, lc, hlv, lm, kk⟩ := h
    have cl : h.l.count true ≤ h.l.length := List.count_le_length
    refine ⟨_, (pss_cons (ps_asg (pv 0) (pg_tup rfl (pgs_cons (pg_name (i := 5) sc_step.nd rfl (Or.inl rfl)) (pgs_cons (pg_name (i := 6) sc_step.nd rfl (Or.inl rfl)) (pgs_cons (pg_name (i := 7) sc_step.nd rfl (Or.inr rfl)) (pgs_cons (pg_name (i := 8) sc_step.nd rfl (Or.inl rfl)) pgs_nil))))))
      (pss_cons (ps_set (i := 9) sc_step.nd rfl (Or.inl rfl) (pe_call (ok_heard T) (hr.mono (by decide)) (by rfl) T.g_heard T.F_heard.kp T.b_heard .nil pass0 (pa_cons (pv 5) (pa_cons (pv 1) pa_nil))))
      (pss_cons (ps_set (i := 10) sc_step.nd rfl (Or.inl rfl) (pe_lst pa_nil))
      (pss_cons (ps_for PassesOwn.never rfl (pi_range1 (by rfl) T.z_range (pa_cons (pe_callB call_len_seq (by rfl) T.z_len PySem.boot_len (pa_cons (pv 2) pa_nil)) pa_nil)) (pg_name (i := 11) sc_step.nd rfl (Or.inl rfl))
        (pss_one (ps_expr (pe_bm PySem.F.plainAttrs_list PySem.F.slot_list_append PySem.F.type_list_append mt_append (pv 10) (pa_cons (pe_ifExp (PW.pt (pw_and (pt_cmpR op_in_seq (pv 11) (pv 9) rfl) (pw_and1 (pt_cmpR op_gt (pe_ix ix_list (pv 4) (pv 11) (fun _ _ => rfl)) (pv 6) (nomark _))))) (pe_op op_add (pe_ix ix_list (pv 2) (pv 11) (fun _ _ => rfl)) pe_int) pe_int) pa_nil)))))
      (pss_cons (ps_set (i := 12) sc_step.nd rfl (Or.inl rfl) (pe_cmpR op_ge (pe_callB call_len_seq (by rfl) T.z_len PySem.boot_len (pa_cons (pe_lc (own := [("_law_one", 13)]) (g := gName 13) rfl sc_step.nd (pi_list (pv 10)) (blkOk_by (own := [("_law_one", 13)]) (N := nm_step) (sc := (defScope s_step)) (by decide +kernel)) (fun _ _ _ _ _ => pg_name (i := 13) sc_step.nd rfl (Or.inl rfl)) (fun _ _ _ _ _ => (pts_one (pt_cmpR op_ge (pv 13) (pv 7) (nomark _)))) (fun _ _ _ _ _ => (pv 13))) pa_nil)) (pv 8) (nomark _)))
      (pss_one (ps_ret (pe_tup (pa_cons (pe_and (pv 12) (pe_one (pe_not (pv 3)))) (pa_cons (pv 10) (pa_cons (pv 12) pa_nil))))))))))), ?_⟩
    refine ⟨_, rfl, u, _, rfl, hu, rfl, _, _, rfl, _, _, rfl, _, _, rfl, _, _, rfl, rfl, ?_⟩
    refine ⟨_, rfl, _, rfl, f, h.l, M, rfl, hl, hF, fok, fun H1 r s1 nr hr => ?_⟩
    refine ⟨small_len (by show 0 ≤ 100000; decide), fun D hD => ?_⟩
    have sD := s1.trans (same_new (o := .lst []) hD)
    have hD0 : H D = none := s1.free hD
    have rD : r ≠ D := ne_of_none hr hD
    refine ⟨_, rfl, c, _, rfl, .inl (Hf.keepL sD hc), _, rfl, by rw [nV_len, lc]; omega, by rw [nV_len, lc]; omega, ?_⟩
    rw [nV_len, lc, Int.toNat_natCast]
    refine for_range (fun i σ A => ∃ vk, σ = [some (.ref u), some (.ref f), some (.ref c), some (.bl al), some (.ref lv), some (.str (rgS h.l)), some (.int h.m), some (.int h.r), some (.int ((h.n : Nat) : Int)), some (.ref r), some (.ref D), vk, none, none] ∧ Same H A ∧ A r = some (.tup (nV (heardL h.l (opn h.l M)))) ∧ A D = some (.lst (nV ((stepC h M cs ms).take i))))
      ⟨none, rfl, sD, at_old hr hD, upd_same⟩ (fun i σ A hi hP => ?_) (fun σ A hP => ?_)
    · obtain ⟨vk, rfl, sA, hrA, hDA⟩ := hP
      have hi : i < h.l.count true := hi
      have ez : V.int (0 + ((i : Nat) : Int)) = V.int ((i : Nat) : Int) := by rw [Int.zero_add]
      rw [ez]
      have fin : ∀ {z : Int}, z = ((cell h M cs ms i : Nat) : Int) → Same H (upd A D (.lst (nV ((stepC h M cs ms).take i) ++ [V.int z]))) ∧ (upd A D (.lst (nV ((stepC h M cs ms).take i) ++ [V.int z]))) r = some (.tup (nV (heardL h.l (opn h.l M)))) ∧ (upd A D (.lst (nV ((stepC h M cs ms).take i) ++ [V.int z]))) D = some (.lst (nV ((stepC h M cs ms).take (i + 1)))) := fun {z} e =>
        ⟨same_mut sA hD0, by rw [upd_ne rD]; exact hrA, by rw [upd_same, e, nV_snoc', step_take hi]⟩
      have ls : (nV ((stepC h M cs ms).take i)).length < sizeLine := by rw [nV_len, List.length_take]; exact small1000 (by omega)
      refine ⟨_, rfl, .inl ⟨rfl, _, SqL.of hDA⟩, ?_⟩
      refine ⟨_, rfl, _, rfl, r, _, rfl, .inr (SqT.of hrA), rfl, nV_flat _, ?_⟩
      rw [show (if false = true then !inV (V.int ((i : Nat) : Int)) (nV (heardL h.l (opn h.l M))) else inV (V.int ((i : Nat) : Int)) (nV (heardL h.l (opn h.l M)))) = decide (i ∈ heardL h.l (opn h.l M)) from inV_nats _ _]
      have lv' := Hf.keepL sA hlv
      have hc' := Hf.keepL sA hc
      refine ⟨_, rfl, ?_⟩
      by_cases a : i ∈ heardL h.l (opn h.l M)
      · rw [decide_eq_true a]
        refine iteT ⟨_, rfl, _, rfl, lv, _, ((i : Nat) : Int), _, rfl, rfl, lv', atI_nat (ms_get (by omega)), _, rfl, _, _, rfl, rfl, _, rfl, ?_⟩
        by_cases b : h.m < ms.getD i 0
        · rw [decide_eq_true b]
          refine iteT ⟨_, rfl, _, rfl, c, _, ((i : Nat) : Int), _, rfl, rfl, hc', atI_nat (nV_get (by omega)), _, _, rfl, rfl, D, _, _, rfl, rfl, hDA, ls, ?_⟩
          obtain ⟨f1, f2, f3⟩ := fin (z := ((cs.getD i 0 : Nat) : Int) + 1) (by unfold cell; rw [decide_eq_true a, decide_eq_true b]; rfl)
          exact ⟨_, rfl, f1, f2, f3⟩
        · rw [decide_eq_false b]
          obtain ⟨f1, f2, f3⟩ := fin (z := 0) (by unfold cell; rw [decide_eq_false b, Bool.and_false]; rfl)
          exact iteF ⟨D, _, _, rfl, rfl, hDA, ls, _, rfl, f1, f2, f3⟩
      · rw [decide_eq_false a]
        obtain ⟨f1, f2, f3⟩ := fin (z := 0) (by unfold cell; rw [decide_eq_false a]; rfl)
        exact iteF ⟨D, _, _, rfl, rfl, hDA, ls, _, rfl, f1, f2, f3⟩
    · obtain ⟨vk, rfl, sA, hrA, hDA⟩ := hP
      have sl : (stepC h M cs ms).length = h.l.count true := by unfold stepC; rw [List.length_map, List.length_range]
      rw [List.take_of_length_le (by omega)] at hDA
      have lx : (nV (stepC h M cs ms)).length = (stepC h M cs ms).length := nV_len _
      refine ⟨_, rfl, D, rfl, ⟨_, SqL.of hDA⟩, fun D2 hD2 => ?_⟩
      refine lc_sel (K := K) walk_list (fun c : Nat => decide (h.r ≤ ((c : Nat) : Int))) (dat := fun c => PyData.int ((c : Nat) : Int)) (out := fun c => PyData.int ((c : Nat) : Int)) (nats_dts _) lx hD2 (by omega) (fun H' s => SqL.of (s _ _ hDA)) (fun i x c H' hx hc dxc sm2 Q2 Z q2 z0 => ?_) (fun A6 os s6 hos dos => ?_)
      · refine ⟨rfl, ?_⟩
        have ex : x = .int ((c : Nat) : Int) := dxc.int_inv
        subst ex
        refine ⟨_, rfl, _, rfl, _, _, rfl, rfl, _, rfl, ?_⟩
        cases d : decide (h.r ≤ ((c : Nat) : Int)) with
        | true => exact ⟨_, rfl, q2 d _ _ (Same.refl _) (.int _)⟩
        | false => exact z0 d _ (Same.refl _)
      · have lo := Dts.len dos
        rw [List.length_map] at lo
        have ea : decide (((h.n : Nat) : Int) ≤ ((os.length : Nat) : Int)) = alarm h (stepC h M cs ms) := by
          unfold alarm
          rw [lo]
          exact decide_eq_decide.mpr (by omega)
        refine ⟨D2, _, rfl, .inl (SqL.of hos), _, rfl, _, _, rfl, rfl, ?_⟩
        dsimp only
        rw [ea]
        have s06 := sA.trans s6
        have hD6 := s6 _ _ hDA
        refine ⟨_, rfl, _, rfl, ?_⟩
        cases d : alarm h (stepC h M cs ms) with
        | false =>
          refine iteF ⟨_, rfl, _, rfl, small_len (by show 3 ≤ 100000; decide), fun t ht => ?_⟩
          have kk := kk _ t D (s06.trans (same_new (o := .tup [.bl false, .ref D, .bl false]) ht)) hD0 (at_old hD6 ht)
          rw [d] at kk
          exact kk (SqT.of upd_same)
        | true =>
          refine iteT ⟨_, rfl, _, rfl, _, rfl, _, rfl, small_len (by show 3 ≤ 100000; decide), fun t ht => ?_⟩
          have kk := kk _ t D (s06.trans (same_new (o := .tup [.bl (!al), .ref D, .bl true]) ht)) hD0 (at_old hD6 ht)
          rw [d] at kk
          exact kk (SqT.of upd_same)
end
end K52

namespace K52
open PySem L2 Wm TL Dv Rm Lo
section
variable {P : Program} {w : World} {K : PySem.W.Frag} {mg : Str → Option Value} {base : Heap}
theorem ok_ordered (T : Txt K mg) : FnOk P w K mg base CX0 1 T.a_ordered T.d_ordered ["_law_text_here", "_law_faults_here"] (sp_ordered K) := by
  refine T.F_ordered.ok sc_ordered (fun vs H Q E h => ?_) (fun cdv A outer s H vs Q E hr h => ?_)
  · obtain ⟨f, l, M, rfl, _⟩ := h
    rfl
  · obtain ⟨f, l, M, rfl, hl, hF, kk⟩ := h
    refine ⟨_, (pss_cons (ps_set (i := 2) sc_ordered.nd rfl (Or.inl rfl) (pe_lst pa_nil))
      (pss_cons (ps_for PassesOwn.never rfl (pi_range1 (by rfl) T.z_range (pa_cons (pe_op op_add (pe_callB call_len_str (by rfl) T.z_len PySem.boot_len (pa_cons (pv 0) pa_nil)) pe_int) pa_nil)) (pg_name (i := 3) sc_ordered.nd rfl (Or.inl rfl))
        (pss_one (ps_set (i := 2) sc_ordered.nd rfl (Or.inl rfl) (pe_op op_cat (pv 2) (pe_lst (pa_cons (pe_tup (pa_cons pe_str (pa_cons (pv 3) pa_nil))) (pa_cons (pe_tup (pa_cons pe_str (pa_cons (pv 3) pa_nil))) pa_nil)))))))
      (pss_one (ps_ret (pe_callTy call_tuple_of (by rfl) T.z_tuple (by decide +kernel) (pa_cons (pe_lc (own := [("_law_pair", 4)]) (g := gName 4) rfl sc_ordered.nd (pi_list (pv 2)) (blkOk_by (own := [("_law_pair", 4)]) (N := nm_ordered) (sc := (defScope s_ordered)) (by decide +kernel)) (fun _ _ _ _ _ => pg_name (i := 4) sc_ordered.nd rfl (Or.inl rfl)) (fun _ _ _ _ _ => (pts_one (pt_cmpR (show OpR _ _ (Ind.rInS K) from Ind.op_inS (Ind.room65 hr)) (pv 4) (pv 1) rfl))) (fun _ _ _ _ _ => (pv 4))) pa_nil)))))), ?_⟩
    refine ⟨small_len (by show 0 ≤ 100000; decide), fun D0 hD0 => ?_⟩
    have s0 := same_new (o := .lst []) hD0
    refine ⟨_, rfl, _, rfl, by rw [rgS_len]; exact Nat.le_trans hl (by decide), _, _, rfl, rfl, _, rfl, by rw [rgS_len]; omega, by rw [rgS_len]; omega, ?_⟩
    rw [rgS_len, show ((l.length : Nat) : Int) + 1 = ((l.length + 1 : Nat) : Int) by omega, Int.toNat_natCast]
    refine for_range (fun i σ A => ∃ (D : Addr) (xs : List V) (vk : Option V), σ = [some (.str (rgS l)), some (.ref f), some (.ref D), vk, none] ∧ Same H A ∧ A D = some (.lst xs) ∧ Dts K A xs ((allF i).map ftD))
      ⟨D0, [], none, rfl, s0, upd_same, .nil⟩ (fun i σ A hi hP => ?_) (fun σ A hP => ?_)
    · obtain ⟨D, xs, vk, rfl, sA, hDA, ds⟩ := hP
      have ez : V.int (0 + ((i : Nat) : Int)) = V.int ((i : Nat) : Int) := by rw [Int.zero_add]
      rw [ez]
      have hi : i < l.length + 1 := hi
      have lx := ds.len
      rw [List.length_map, allF_len] at lx
      refine ⟨_, rfl, _, rfl, small_len (by show 2 ≤ 100000; decide), fun t1 h1 => ?_⟩
      generalize x1 : upd A t1 _ = A1
      obtain ⟨s1, e1⟩ := got x1 h1
      refine ⟨_, rfl, small_len (by show 2 ≤ 100000; decide), fun t2 h2 => ?_⟩
      generalize x2 : upd A1 t2 _ = A2
      obtain ⟨s2, e2⟩ := got x2 h2
      refine ⟨small_len (by show 2 ≤ 100000; decide), fun D2 h3 => ?_⟩
      generalize x3 : upd A2 D2 _ = A3
      obtain ⟨s3, e3⟩ := got x3 h3
      clear x1 x2 x3
      have s13 := (s1.trans s2).trans s3
      refine ⟨D, D2, _, _, rfl, rfl, s13 _ _ hDA, e3, small_len (by show xs.length + 2 ≤ 100000; omega), fun D3 h4 => ?_⟩
      have s4 := same_new (o := .lst (xs ++ [V.ref t1, .ref t2])) h4
      refine ⟨D3, _, _, rfl, (sA.trans s13).trans s4, upd_same, ?_⟩
      rw [allF_succ, List.map_append]
      have f1 : SqT K A3 t1 [.str (wdS true), .int ((i : Nat) : Int)] := SqT.of ((s2.trans s3) _ _ e1)
      have f2 : SqT K A3 t2 [.str (wdS false), .int ((i : Nat) : Int)] := SqT.of (s3 _ _ e2)
      exact ((ds.k (Kt.same s13)).app (.cons (.tup f1 (.cons (.str _) (.cons (.int _) .nil))) (.cons (.tup f2 (.cons (.str _) (.cons (.int _) .nil))) .nil))).k (Kt.same s4)
    · obtain ⟨D, xs, vk, rfl, sA, hDA, ds⟩ := hP
      have lx := ds.len
      rw [List.length_map] at lx
      have l22 := allF_le hl
      refine ⟨_, rfl, D, rfl, ⟨_, SqL.of hDA⟩, fun D2 hD2 => ?_⟩
      refine lc_sel (K := K) walk_list (fun g => decide (g ∈ M)) (out := ftD) ds lx hD2 (by omega) (fun H' s => SqL.of (s _ _ hDA)) (fun i x g H' hx hf dx sm Q2 Z q2 z0 => ?_) (fun A3 os s3 hos dos => ?_)
      · refine ⟨rfl, ?_⟩
        obtain ⟨t, dg⟩ := fts_in (hF.k (sA.trans sm))
        refine ⟨_, rfl, _, rfl, ftD g, M.map ftD, t, (dx.k (Kt.same sm)).toDp, dg, (fine_ft g (n := 0)).1, Nat.le_trans (fine_ft g (n := 0)).2 (by decide), lay_fts _, ?_⟩
        rw [any_ft]
        refine ⟨_, rfl, ?_⟩
        cases c : decide (g ∈ M) with
        | true => exact ⟨_, rfl, q2 c _ _ (Same.refl _) (dx.k (Kt.same sm))⟩
        | false => exact z0 c _ (Same.refl _)
      · refine ⟨D2, os, rfl, .inl ⟨SqL.of hos, fun u hu => ?_⟩⟩
        exact kk _ u ((sA.trans s3).trans (same_new hu)) (dt_tup upd_same (Dts.k dos (Kt.new hu)))
end
end K52

namespace K52
open PySem L2 Wm TL Dv Rm Lo
section
variable {P : Program} {w : World} {K : PySem.W.Frag} {mg : Str → Option Value} {base : Heap}
theorem fine_fts {n : Nat} (fs : List Ft) : Fine (n + 2) (.tuple (fs.map ftD)) := fine_tup fun d m => by
  obtain ⟨f, _, rfl⟩ := List.mem_map.mp m
  exact fine_ft f
theorem fine_nats {n : Nat} (cs : List Nat) : Fine (n + 1) (.tuple (cs.map fun c => PyData.int ((c : Nat) : Int))) := fine_tup fun d m => by
  obtain ⟨f, _, rfl⟩ := List.mem_map.mp m
  exact fine_int _
theorem fine_natl {n : Nat} (cs : List Nat) : Fine (n + 1) (.list (cs.map fun c => PyData.int ((c : Nat) : Int))) := by
  have h := fine_nats (n := n) cs
  refine ⟨?_, ?_⟩
  · have a := h.1
    simp only [PyData.canLay0] at a ⊢
    exact a
  · have a := h.2
    simp only [PyData.depth] at a ⊢
    exact a
theorem ne_like {H : Hp} {x y : V} {d : PyData} {n : Nat} {Q : VK} (hx : Dp K H x d) (hy : Dp K H y d) (f : Fine n d) (l : n ≤ 64) (q : Q (.bl false) H) : rNeD K x y H Q := by
  refine ⟨d, d, hx, hy, f.shaped l, f.shaped l, ?_⟩
  rw [f.refl]
  exact q
theorem eq_like {H : Hp} {x y : V} {d : PyData} {n : Nat} {Q : VK} (hx : Dp K H x d) (hy : Dp K H y d) (f : Fine n d) (l : n ≤ 64) (q : Q (.bl true) H) : rEqD K x y H Q := by
  refine ⟨d, d, hx, hy, f.shaped l, f.shaped l, ?_⟩
  rw [f.refl]
  exact q
theorem nats_dps {H : Hp} (cs : List Nat) : DpAll K H (nV cs) (cs.map fun c => PyData.int ((c : Nat) : Int)) := (nats_dts cs).dp
theorem nodup_len (M : List Ft) {n : Nat} (nd : M.Nodup) (d : ∀ f ∈ M, f.2 ≤ n) : M.length ≤ 2 * (n + 1) := by
  have := List.Nodup.length_le_of_subset nd (fun f m => allF_mem.mpr (Nat.lt_succ_of_le (d f m)) : M ⊆ allF (n + 1))
  rw [allF_len] at this
  exact this
theorem ok_same (T : Txt K mg) : FnOk P w K mg base CX0 5 T.a_same T.d_same ["_law_panel", "_law_plan", "_law_model"] (sp_same K T.C T.HC T.PC) := by
  refine T.F_same.ok sc_same (fun vs H Q E h => ?_) (fun cdv A outer s H vs Q E hr h => ?_)
  · obtain ⟨p, u, mm, h, s, M, rfl, _⟩ := h
    rfl
  · obtain ⟨p, u, mm, h, s, M, rfl, hu, ok, pr, kk⟩ := h
    have hl := ok.ri.len
    obtain ⟨g, fa, ha, ca, hr0, a1, a2, a3, a4, a5, a6, a7, a8, a9⟩ := id pr.pan
    obtain ⟨dx, fs, hh, hp, lf, lk, gh, hA, no⟩ := id hr0
    obtain ⟨f, c, xs, hm, hf, dxs, hc⟩ := id pr.mod
    refine ⟨_, (pss_cons (ps_asg (pv 2) (pg_lst rfl (pgs_cons (pg_name (i := 3) sc_same.nd rfl (Or.inl rfl)) (pgs_cons (pg_name (i := 4) sc_same.nd rfl (Or.inl rfl)) (pgs_cons (pg_name (i := 5) sc_same.nd rfl (Or.inl rfl)) pgs_nil)))))
      (pss_cons (ps_if (PW.pt (pw_or (pt_cmpR (op_neD hr.units) (pe_fld (pv 0) rfl) (pe_call (ok_ordered T) (hr.mono (by decide)) (by rfl) T.g_ordered T.F_ordered.kp T.b_ordered .nil pass0 (pa_cons (pe_ix ix_tup (pv 1) pe_int (fun _ _ => rfl)) (pa_cons (pv 3) pa_nil))) (nomark _)) (pw_or1 (pt_cmpR (op_neD hr.units) (pe_fld (pv 0) rfl) (pe_call (ok_heard T) (hr.mono (by decide)) (by rfl) T.g_heard T.F_heard.kp T.b_heard .nil pass0 (pa_cons (pe_ix ix_tup (pv 1) pe_int (fun _ _ => rfl)) (pa_cons (pv 3) pa_nil))) (nomark _)))))
        (pss_one (ps_ret pe_bl))
        pss_nil)
      (pss_cons (ps_if (PW.pt (pw_or (pt_not (pt_val (pe_callB call_isi (by rfl) T.z_isinstance (by decide +kernel) (pa_cons (pe_fld (pv 0) rfl) (pa_cons (pe_bltn (v := V.ty "tuple") (by rfl) T.z_tuple (by decide +kernel) rfl) pa_nil))))) (pw_or1 (pt_cmpR (op_neD hr.units) (pe_callTy call_list_of (by rfl) T.z_list (by decide +kernel) (pa_cons (pe_fld (pv 0) rfl) pa_nil)) (pv 4) (nomark _)))))
        (pss_one (ps_ret pe_bl))
        pss_nil)
      (pss_one (ps_ret (pe_ifExp (pt_val (pv 5)) (pe_cmpR op_isBl (pe_fld (pv 0) rfl) pe_bl (nomark _)) (pe_cmpR op_isBl (pe_fld (pv 0) rfl) pe_bl (nomark _)))))))), ?_⟩
    refine ⟨_, rfl, mm, _, rfl, SqL.of hm, rfl, _, _, rfl, _, _, rfl, _, _, rfl, rfl, ?_⟩
    have FtM : FtsAt K H f M := ⟨false, xs, SqL.of hf, dxs⟩
    have fk := pr.nd
    have lM : M.length ≤ 30 := by
      have := nodup_len M pr.nd pr.dom
      omega
    refine ⟨_, rfl, p, T.PC, dx, fs, _, rfl, hp, T.clPC, T.nFa, (lk _).trans a1, _, rfl, u, _, _, _, rfl, rfl, hu, atI_nat (j := 0) rfl, _, rfl, f, h.l, M, rfl, hl, FtM, fun H1 q s1 d1 => ?_⟩
    rw [← pr.nrm] at d1
    refine ne_like (a5.k (Kt.same s1)).toDp d1.toDp (fine_fts (n := 0) _) (by decide) ⟨_, rfl, ?_⟩
    refine iteF ⟨_, rfl, p, T.PC, dx, fs, _, rfl, s1 _ _ hp, T.clPC, T.nHe, (lk _).trans a2, _, rfl, u, _, _, _, rfl, rfl, sameT s1 hu, atI_nat (j := 0) rfl, _, rfl, f, h.l, M, rfl, hl, FtM.k s1, ⟨lM, pr.dom⟩, fun H2 r s2 nr hr => ?_⟩
    rw [← heard_norm pr.dom, ← pr.nrm] at hr
    have s12 := s1.trans s2
    refine ne_like (d := .tuple ((heardL h.l (opn h.l s.fs)).map fun c => PyData.int ((c : Nat) : Int))) (.tup (sameT s12 a6) (nats_dps _)) (.tup (SqT.of hr) (nats_dps _)) (fine_nats (n := 0) _) (by decide) ⟨_, rfl, ?_⟩
    refine iteF ?_
    refine ⟨_, rfl, p, T.PC, dx, fs, _, rfl, s12 _ _ hp, T.clPC, T.nCo, (lk _).trans a3, _, _, _, _, true, rfl, .ty "tuple", tyT (sameT s12 a7), kit_ty (by decide +kernel), true, rfl, ?_⟩
    refine iteF ⟨_, rfl, p, T.PC, dx, fs, _, rfl, s12 _ _ hp, T.clPC, T.nCo, (lk _).trans a3, ca, _, rfl, .inr (sameT s12 a7), fun D hD => ?_⟩
    have s3 := s12.trans (same_new (o := .lst (nV s.cs)) hD)
    refine ⟨_, rfl, ?_⟩
    refine ne_like (.lst (SqL.of upd_same) (nats_dps _)) (.lst (SqL.of (s3 _ _ hc)) (nats_dps _)) (fine_natl (n := 0) _) (by decide) ⟨_, rfl, ?_⟩
    refine iteF ⟨_, rfl, _, rfl, ?_⟩
    have kk := kk _ s3
    cases e : s.al with
    | true =>
      rw [e] at a4
      refine iteT ⟨_, rfl, p, T.PC, dx, fs, _, rfl, s3 _ _ hp, T.clPC, T.nAl, (lk _).trans a4, _, _, rfl, rfl, ?_⟩

      simpa using kk
    | false =>
      rw [e] at a4
      exact iteF ⟨_, rfl, p, T.PC, dx, fs, _, rfl, s3 _ _ hp, T.clPC, T.nAl, (lk _).trans a4, _, _, rfl, rfl, kk⟩
end
end K52

namespace K52
open PySem L2 Wm TL Dv Rm Lo
section
variable {P : Program} {w : World} {K : PySem.W.Frag} {mg : Str → Option Value} {base : Heap}
theorem runS_fs {h : Hs} : ∀ (rs : List (List Int)) (s : Ps), (runS h s rs).fs = s.fs
  | [], _ => rfl
  | r :: rs, s => (runS_fs rs (beatP h s r)).trans rfl
theorem stepC_len {h : Hs} {fs : List Ft} {cs : List Nat} {ms : List Int} : (stepC h fs cs ms).length = h.l.count true := by unfold stepC; rw [List.length_map, List.length_range]
theorem runS_len {h : Hs} : ∀ (rs : List (List Int)) (s : Ps), s.cs.length = h.l.count true → (runS h s rs).cs.length = h.l.count true
  | [], _, e => e
  | r :: rs, s, _ => runS_len rs (beatP h s r) stepC_len
theorem ok_run (T : Txt K mg) : FnOk P w K mg base CX0 6 T.a_run T.d_run ["_law_plan", "_law_model", "_law_faults_here", "_law_beats"] (sp_run K) := by
  refine T.F_run.ok sc_run (fun vs H Q E h => ?_) (fun cdv A outer s H vs Q E hr h => ?_)
  · obtain ⟨u, mm, f, bts, h, M, F, cs, al, xs, ys, rs, rfl, _⟩ := h
    rfl
  · obtain ⟨u, mm, f, bts, h, M, F, cs, al, xs, ys, rs, rfl, hu, ok, hM, hf, dF, fok, lc, hb, ly, l50, rows, kk⟩ := h
    have hl := ok.ri.len
    have cl : h.l.count true ≤ h.l.length := List.count_le_length
    obtain ⟨fm, c, zs, hm, hfm, dM, hc⟩ := id hM
    have lx := dF.len
    have lz := dM.len
    rw [List.length_map] at lx lz
    have lMF : M.length + F.length ≤ 30 := by have := fok.1; rw [List.length_append] at this; exact this
    refine ⟨_, (pss_cons (ps_set (i := 4) sc_run.nd rfl (Or.inl rfl) (pe_op op_cat (pe_ix ix_list (pv 1) pe_int (fun _ _ => rfl)) (pv 2)))
      (pss_cons (ps_set (i := 5) sc_run.nd rfl (Or.inl rfl) (pe_callTy call_list_of (by rfl) T.z_list (by decide +kernel) (pa_cons (pe_ix ix_list (pv 1) pe_int (fun _ _ => rfl)) pa_nil)))
      (pss_cons (ps_set (i := 6) sc_run.nd rfl (Or.inl rfl) (pe_ix ix_list (pv 1) pe_int (fun _ _ => rfl)))
      (pss_cons (ps_set (i := 7) sc_run.nd rfl (Or.inl rfl) (pe_lst pa_nil))
      (pss_cons (ps_for PassesOwn.never rfl (pi_list (pv 3)) (pg_name (i := 8) sc_run.nd rfl (Or.inl rfl))
        (pss_cons (ps_asg (pe_call (ok_step T) (hr.mono (by decide)) (by rfl) T.g_step T.F_step.kp T.b_step .nil pass0 (pa_cons (pv 0) (pa_cons (pv 4) (pa_cons (pv 5) (pa_cons (pv 6) (pa_cons (pv 8) pa_nil)))))) (pg_tup rfl (pgs_cons (pg_name (i := 9) sc_run.nd rfl (Or.inl rfl)) (pgs_cons (pg_name (i := 5) sc_run.nd rfl (Or.inl rfl)) (pgs_cons (pg_name (i := 6) sc_run.nd rfl (Or.inl rfl)) pgs_nil)))))
        (pss_one (ps_expr (pe_bm PySem.F.plainAttrs_list PySem.F.slot_list_append PySem.F.type_list_append mt_append (pv 7) (pa_cons (pv 9) pa_nil))))))
      (pss_one (ps_ret (pe_callTy (show CallR _ _ (Tf.rTupF K) from Tf.call_tupF) (by rfl) T.z_tuple (by decide +kernel) (pa_cons (pv 7) pa_nil))))))))), ?_⟩
    refine ⟨_, rfl, mm, _, _, _, rfl, rfl, SqL.of hm, atI_nat (j := 0) rfl, _, rfl, fm, f, _, _, rfl, rfl, hfm, hf, small_len (by omega), fun D hD => ?_⟩
    have s1 := same_new (o := .lst (zs ++ xs)) hD
    refine ⟨_, rfl, mm, _, _, _, rfl, rfl, SqL.of (s1 _ _ hm), atI_nat (j := 1) rfl, c, _, rfl, .inl (SqL.of (s1 _ _ hc)), fun D2 hD2 => ?_⟩
    have hDD : (upd H D (.lst (zs ++ xs))) D = some (.lst (zs ++ xs)) := upd_same
    have dD : Dts K (upd H D (.lst (zs ++ xs))) (zs ++ xs) ((M ++ F).map ftD) := by
      rw [List.map_append]
      exact (dM.k (Kt.new hD)).app (dF.k (Kt.new hD))
    generalize upd H D (.lst (zs ++ xs)) = A1 at *
    have s2 := same_new (o := .lst (nV cs)) hD2
    have hD22 : (upd A1 D2 (.lst (nV cs))) D2 = some (.lst (nV cs)) := upd_same
    have dD2 := dD.k (Kt.new (o := .lst (nV cs)) hD2)
    have hDD2 := s2 _ _ hDD
    generalize upd A1 D2 (.lst (nV cs)) = A2 at *
    have s12 := s1.trans s2
    refine ⟨_, rfl, mm, _, _, _, rfl, rfl, SqL.of (s12 _ _ hm), atI_nat (j := 2) rfl, ?_⟩
    refine ⟨small_len (by show 0 ≤ 100000; decide), fun D3 hD3 => ?_⟩
    have hD30 : A2 D3 = none := hD3
    have h0 : H D3 = none := s12.free hD3
    have s3 := s12.trans (same_new (o := .lst []) hD3)
    have rl := run_len (h := h) rs ⟨M ++ F, cs, al⟩
    refine ⟨_, rfl, bts, rfl, ⟨_, SqL.of (s3 _ _ hb)⟩, for_list (a := bts) (xs := ys) (fun i σ A => ∃ (cc : Addr) (v8 v9 : Option V), σ = [some (.ref u), some (.ref mm), some (.ref f), some (.ref bts), some (.ref D), some (.ref cc), some (.bl (runS h ⟨M ++ F, cs, al⟩ (rs.take i)).al), some (.ref D3), v8, v9] ∧ Same A2 A ∧ A D3 = some (.lst (((runP h ⟨M ++ F, cs, al⟩ rs).1.take i).map V.bl)) ∧ SqL K A cc (nV (runS h ⟨M ++ F, cs, al⟩ (rs.take i)).cs))
      ⟨D2, none, none, rfl, same_new hD3, upd_same, SqL.of (at_old hD22 hD3)⟩ (fun i σ A _ h => ?_) (fun i x σ A hx hP => ?_) (fun σ A hP => ?_)⟩
    · obtain ⟨_, _, _, _, s, _⟩ := h
      exact SqL.of ((s12.trans s) _ _ hb)
    · obtain ⟨cc, v8, v9, rfl, sA, hA3, hcc⟩ := hP
      have hi : i < ys.length := by
        rcases Nat.lt_or_ge i ys.length with g | g
        · exact g
        · rw [List.getElem?_eq_none g] at hx
          cases hx
      obtain ⟨ms, hms⟩ : ∃ ms, rs[i]? = some ms := ⟨rs[i]'(by omega), List.getElem?_eq_getElem (by omega)⟩
      obtain ⟨lm, a, rfl, hlv⟩ := rows i x ms hx hms
      have sHA := s12.trans sA
      refine ⟨_, rfl, _, rfl, _, rfl, _, rfl, _, rfl, u, D, cc, a, _, h, M ++ F, _, ms, rfl, sameT sHA hu, hl, ⟨false, _, SqL.of (sA _ _ hDD2), dD2.k (Kt.same sA)⟩, fok, hcc, runS_len _ _ lc, Hf.keepL sHA hlv, lm, fun B t r sB nr hr ht => ?_⟩
      have hB3 := sB _ _ hA3
      refine ⟨t, _, rfl, ht, rfl, _, _, rfl, _, _, rfl, _, _, rfl, rfl, ?_⟩
      refine ⟨_, rfl, .inl ⟨rfl, _, SqL.of hB3⟩, _, rfl, D3, _, _, rfl, rfl, hB3, small1000 (by rw [List.length_map, List.length_take]; omega), ?_⟩
      have sAB := sA.trans sB
      have e := run_at (h := h) (s := ⟨M ++ F, cs, al⟩) hms
      have rD : r ≠ D3 := fun z => by rw [z] at nr; rw [nr] at hA3; cases hA3
      refine ⟨r, some (.ref a), some (.bl (alarm h (stepC h (M ++ F) (runS h ⟨M ++ F, cs, al⟩ (rs.take i)).cs ms) && !(runS h ⟨M ++ F, cs, al⟩ (rs.take i)).al)), ?_, same_mut sAB hD30, ?_, ?_⟩
      · rw [← run_take hms]
        show _ = [some (V.ref u), some (V.ref mm), some (V.ref f), some (V.ref bts), some (V.ref D), some (V.ref r), some (V.bl (alarm h (stepC h (runS h ⟨M ++ F, cs, al⟩ (rs.take i)).fs (runS h ⟨M ++ F, cs, al⟩ (rs.take i)).cs ms))), some (V.ref D3), some (V.ref a), _]
        rw [runS_fs]
        rfl
      · rw [upd_same, List.take_add_one, e, Option.toList_some, List.map_append]
        show some (HO.lst _) = some (HO.lst (_ ++ [V.bl (alarm h (stepC h (runS h ⟨M ++ F, cs, al⟩ (rs.take i)).fs (runS h ⟨M ++ F, cs, al⟩ (rs.take i)).cs ms) && !(runS h ⟨M ++ F, cs, al⟩ (rs.take i)).al)]))
        rw [runS_fs]
      · rw [← run_take hms]
        refine SqL.of ((upd_ne rD).trans ?_)
        rw [hr]
        show _ = some (HO.lst (nV (stepC h (runS h ⟨M ++ F, cs, al⟩ (rs.take i)).fs (runS h ⟨M ++ F, cs, al⟩ (rs.take i)).cs ms)))
        rw [runS_fs]
    · obtain ⟨cc, v8, v9, rfl, sA, hA3, hcc⟩ := hP
      rw [ly, ← rl, List.take_length] at hA3
      refine ⟨_, rfl, D3, _, rfl, SqL.of hA3, fun t ob ht hob => ?_⟩
      exact kk _ t ((s12.trans sA).trans (same_new ht)) ⟨ob, upd_same, hob⟩
end
end K52

namespace K52
open PySem L2 Wm TL Dv Rm Lo
section
variable {P : Program} {w : World} {K : PySem.W.Frag} {mg : Str → Option Value} {base : Heap}
theorem ok_ltried (T : Txt K mg) : FnOk P w K mg base CX0 11 T.a_ltried T.d_ltried ["_law_panel", "_law_faults_here", "_law_beats"] (sp_ltried K T.C T.HC T.PC) := by
  refine T.F_ltried.ok sc_ltried (fun vs H Q E h => ?_) (fun cdv A outer s H vs Q E hr h => ?_)
  · obtain ⟨p, fq, bq, h, s, rfl, _⟩ := h
    rfl
  · obtain ⟨p, fq, bq, h, st, rfl, hP, ok, alt⟩ := h
    refine ⟨_, (pss_cons (ps_set (i := 3) sc_ltried.nd rfl (Or.inl rfl) pe_non)
      (pss_cons (Ta.ps_try_ass (W := fun _ _ _ _ => False) rfl rfl sc_ltried.nd takes0 (fun U pn xe tk _ => (pss_one (ps_set (i := 3) sc_ltried.nd rfl (Or.inl rfl) (pe_callS (ok_tried T) (hr.mono (by decide)) (by rfl) T.g_tried T.F_tried.kp T.b_tried (fun σ => passAt tk σ) (by exact (pa_cons (pv 0) (pa_cons (pv 1) (pa_cons (pv 2) pa_nil)))))))) (Ta.Hds.cons (h := ⟨Value.ref T.CF, 4, _⟩) rfl rfl ⟨rfl, by decide, Or.inl T.lowF.gC⟩ (fun a oe cls d pn hz hf => (pss_one (ps_set (i := 3) sc_ltried.nd rfl (Or.inl rfl) (pe_tup (pa_cons pe_str (pa_cons (pe_byLowF T.lowF hz hf (pv 4)) pa_nil)))))) (Ta.Hds.cons (h := ⟨Value.ref T.CV, 4, _⟩) rfl rfl ⟨rfl, by decide, Or.inl T.lowV.gC⟩ (fun a oe cls d pn hz hf => (pss_one (ps_set (i := 3) sc_ltried.nd rfl (Or.inl rfl) (pe_tup (pa_cons (pe_byLowVa T.lowV hz hf (pv 4)) (pa_cons (pe_byLowVb T.lowV hz hf (pv 4)) pa_nil)))))) Ta.Hds.nil)))
      (pss_one (ps_ret (pv 3))))), ?_⟩
    refine ⟨_, rfl, _, rfl, _, rfl, p, fq, bq, h, st, rfl, hP, ok, ?_⟩
    rcases alt with ⟨x, hM, k⟩ | ⟨fs, rs, bad, hF, fok, hR, k⟩
    · refine .inl ⟨x, hM, fun H1 dd s1 e1 => ?_⟩
      refine ⟨true, T.lowF.te, fun _ a0 ha0 => ?_, fun z => Bool.noConfusion z⟩
      refine ⟨_, rfl, rfl, rfl, dd, x, rfl, e1, small_len (by show 2 ≤ 100000; decide), fun t ht => ?_⟩
      exact ⟨_, rfl, k _ t (s1.trans (same_new ht)) upd_same⟩
    · refine .inr ⟨fs, rs, bad, hF, fok, hR, ?_⟩
      cases bad with
      | none => exact fun H1 u s1 hu => ⟨_, rfl, k H1 u s1 hu⟩
      | some o =>
        cases o with
        | good ms => exact trivial
        | len j =>
          refine fun H1 dd s1 e1 => ?_
          refine ⟨false, T.xVF, fun z => Bool.noConfusion z, fun _ => ⟨true, T.lowV.te, fun _ a0 ha0 => ?_, fun z => Bool.noConfusion z⟩⟩
          refine ⟨_, rfl, rfl, rfl, dd, _, _, rfl, e1, rfl, _, rfl, rfl, rfl, dd, _, _, rfl, e1, rfl, small_len (by show 2 ≤ 100000; decide), fun t ht => ?_⟩
          exact ⟨_, rfl, k _ t (s1.trans (same_new ht)) upd_same⟩
        | level j =>
          refine fun H1 dd s1 e1 => ?_
          refine ⟨false, T.xVF, fun z => Bool.noConfusion z, fun _ => ⟨true, T.lowV.te, fun _ a0 ha0 => ?_, fun z => Bool.noConfusion z⟩⟩
          refine ⟨_, rfl, rfl, rfl, dd, _, _, rfl, e1, rfl, _, rfl, rfl, rfl, dd, _, _, rfl, e1, rfl, small_len (by show 2 ≤ 100000; decide), fun t ht => ?_⟩
          exact ⟨_, rfl, k _ t (s1.trans (same_new ht)) upd_same⟩
end
end K52

namespace K52
open PySem L2 Wm TL Dv Rm Lo
section
variable {P : Program} {w : World} {K : PySem.W.Frag} {mg : Str → Option Value} {base : Heap}
theorem ok_mended (T : Txt K mg) : FnOk P w K mg base CX0 8 T.a_mended T.d_mended ["_law_panel", "_law_fault"] (sp_mended K T.C T.HC T.PC) := by
  refine T.F_mended.ok sc_mended (fun vs H Q E h => ?_) (fun cdv A outer s H vs Q E hr h => ?_)
  · obtain ⟨p, x, h, s, f, rfl, _⟩ := h
    rfl
  · obtain ⟨p, x, h, st, f, rfl, hP, ok, dx, hf, alt⟩ := h
    obtain ⟨g, u, v, w, hr0, a1, a2, a3, a4, a5, a6, a7, a8, a9⟩ := id hP
    obtain ⟨d0, fs, hh, hp, lf, lk, gh, hA, no⟩ := id hr0
    refine ⟨_, (pss_cons (ps_set (i := 2) sc_mended.nd rfl (Or.inl rfl) pe_str)
      (pss_cons (Ta.ps_try_ass (W := fun _ _ _ _ => False) rfl rfl sc_mended.nd takes0 (fun U pn xe tk _ => (pss_one (ps_if (pt_cmpR op_notN (MS.pe_methS (pv 0) T.clPC T.m_mend_fault (ok_mend_fault T) (hr.mono (by decide)) T.b_mend_fault (fun σ => passAt tk σ) (by exact (pa_cons (pv 1) pa_nil))) pe_non (nomark _))
          (pss_one (ps_set (i := 2) sc_mended.nd rfl (Or.inl rfl) pe_str))
          pss_nil))) (Ta.Hds.cons (h := ⟨Value.ref T.CN, 3, _⟩) rfl rfl ⟨rfl, by decide, Or.inl T.lowN.gC⟩ (fun a oe cls d pn hz hf => (pss_one (ps_set (i := 2) sc_mended.nd rfl (Or.inl rfl) (pe_byLowN T.lowN hz hf (pv 3))))) Ta.Hds.nil))
      (pss_one (ps_ret (pv 2))))), ?_⟩
    refine ⟨_, rfl, p, d0, fs, rfl, hp, pn_meth "mend_fault" lk no (by decide +kernel), _, rfl, p, x, h, st, rfl, hP, ok, .inl ⟨f, dx, hf, ?_⟩⟩
    rcases alt with ⟨c, k⟩ | ⟨c, k⟩
    · refine .inl ⟨c, fun H1 off hP1 => ?_⟩
      exact ⟨rfl, _, rfl, iteF ⟨_, rfl, k _ off hP1⟩⟩
    · refine .inr ⟨c, fun H1 dd s1 e1 => ?_⟩
      refine ⟨true, T.lowN.te, fun _ a0 ha0 => ?_, fun z => Bool.noConfusion z⟩
      exact ⟨_, rfl, rfl, rfl, dd, x, rfl, e1, _, rfl, k _ s1⟩
end
end K52

namespace K52
open PySem L2 Wm TL Dv Rm Lo
section
variable {P : Program} {w : World} {K : PySem.W.Frag} {mg : Str → Option Value} {base : Heap}
theorem bt_fresh {b D : Addr} {n : Nat} {H H' : Hp} (e : Bt b H H') (bag : Bg H' b n) (h : H' D = none) : H D = none := by
  cases q : H D with
  | none => rfl
  | some o =>
    have := e.keep _ _ (bag.off h) q
    rw [h] at this
    cases this
theorem HouseAt.bt {C HC : Addr} {H H' : Hp} {p b : Addr} {n : Nat} {h : Hs} (x : HouseAt K C HC H p h) (bag : Bg H b n) (e : Bt b H H') : HouseAt K C HC H' p h := by
  obtain ⟨dx, fs, q, hp, l1, l2, l3, l4, l5, l6, l7, l8, r⟩ := x
  have nb : ∀ {a : Addr} {C d : Addr} {fs : List (Str × V)}, H a = some (.ins C d fs) → a ≠ b := fun h z => by
    obtain ⟨c, k, x, y, z', ns, h1, _⟩ := bag
    rw [z, h1] at h
    cases h
  obtain ⟨dq, fq, y, hq, m⟩ := id r
  exact ⟨dx, fs, q, e.keep _ _ (nb hp) hp, l1, l2, l3, l4, l5, l6, l7, l8, r.off (nb hq) (kt_bt bag e) e.keep⟩
theorem PanelAt.bt {C HC PC : Addr} {H H' : Hp} {p b : Addr} {n : Nat} {h : Hs} {s : Ps} (x : PanelAt K C HC PC H p h s) (bag : Bg H b n) (e : Bt b H H') : PanelAt K C HC PC H' p h s := by
  have k : Kt K H H' := kt_bt bag e
  obtain ⟨g, u, v, w, r, a1, a2, a3, a4, a5, a6, a7, a8, a9⟩ := x
  obtain ⟨dx, fs, hh, hp, l, c, d, hA, f⟩ := r
  have pb : p ≠ b := fun z => by
    obtain ⟨cc, k, x, y, zz, ns, hb, _⟩ := bag
    rw [z, hb] at hp
    cases hp
  exact ⟨g, u, v, w, ⟨dx, fs, hh, e.keep _ _ pb hp, l, c, d, hA.bt bag e, f⟩, a1, a2, a3, a4, a5.k k, SqT.k a6 k, SqT.k a7 k, a8, a9⟩
/-- the source of draws is no list of faults, of counts, no panel of the law -/
theorem bg_no {H : Hp} {b a : Addr} {n : Nat} {xs : List V} (bag : Bg H b n) (h : H a = some (.lst xs)) (no : ∀ (c : Addr) (k x y z : Int), xs ≠ [.ref c, .int k, .int x, .int y, .int z]) : a ≠ b := fun e => by
  obtain ⟨c, k, x, y, z, ns, hb, _⟩ := bag
  rw [e, hb] at h
  exact no c k x y z (HO.lst.inj (Option.some.inj h)).symm
theorem fts_no {H : Hp} {xs : List V} {M : List Ft} (d : Dts K H xs (M.map ftD)) (c : Addr) (k x y z : Int) : xs ≠ [.ref c, .int k, .int x, .int y, .int z] := fun e => by
  subst e
  cases M with
  | nil => cases d
  | cons f M =>
    cases d with
    | cons a r =>
      cases M with
      | nil => cases r
      | cons g M =>
        cases r with
        | cons a2 r =>
          cases a2
theorem nats_no {cs : List Nat} (c : Addr) (k x y z : Int) : nV cs ≠ [.ref c, .int k, .int x, .int y, .int z] := fun e => by
  cases cs <;> cases e
theorem ModelAt.bt {H H' : Hp} {mm b : Addr} {n : Nat} {M : List Ft} {cs : List Nat} {al : Bool} (x : ModelAt K H mm M cs al) (bag : Bg H b n) (e : Bt b H H') : ModelAt K H' mm M cs al := by
  obtain ⟨f, c, xs, hm, hf, d, hc⟩ := x
  exact ⟨f, c, xs, e.keep _ _ (bg_no bag hm fun _ _ _ _ _ z => by cases z) hm, e.keep _ _ (bg_no bag hf (fts_no d)) hf, d.k (kt_bt bag e), e.keep _ _ (bg_no bag hc nats_no) hc⟩
theorem Pair.bt {C HC PC : Addr} {H H' : Hp} {p mm b : Addr} {n : Nat} {h : Hs} {s : Ps} {M : List Ft} (x : Pair K C HC PC H p mm h s M) (bag : Bg H b n) (e : Bt b H H') : Pair K C HC PC H' p mm h s M := ⟨x.pan.bt bag e, x.mod.bt bag e, x.nrm, x.nd, x.dom⟩
theorem ModelAt.keep {H H' : Hp} {mm : Addr} {M : List Ft} {cs : List Nat} {al : Bool} (x : ModelAt K H mm M cs al) (s : Same H H') : ModelAt K H' mm M cs al := by
  obtain ⟨f, c, xs, hm, hf, d, hc⟩ := x
  exact ⟨f, c, xs, s _ _ hm, s _ _ hf, d.k (Kt.same s), s _ _ hc⟩
theorem Pair.ks {C HC PC : Addr} {H H' : Hp} {p mm : Addr} {h : Hs} {s : Ps} {M : List Ft} (x : Pair K C HC PC H p mm h s M) (e : Same H H') : Pair K C HC PC H' p mm h s M := ⟨x.pan.ks e, x.mod.keep e, x.nrm, x.nd, x.dom⟩
end
end K52

namespace K52
open PySem L2 Wm TL Dv Rm Lo
section
variable {P : Program} {w : World} {K : PySem.W.Frag} {mg : Str → Option Value} {base : Heap}
theorem flat_rep (k : Nat) (x : V) : (List.replicate k [x]).flatten = List.replicate k x := by
  induction k with
  | zero => rfl
  | succ k ih => rw [List.replicate_succ, List.replicate_succ, List.flatten_cons, ih]; rfl
theorem fine_pair {n : Nat} (x : Str) {d : PyData} (a : x.cps.all (· < 0x110000) = true) (h : Fine n d) : Fine (n + 1) (.tuple [.str x, d]) := fine_tup fun z m => by
  rcases List.mem_cons.mp m with rfl | m
  · exact fine_str a
  · rw [List.mem_singleton.mp m]
    exact h
theorem fine_lst {n : Nat} {ds : List PyData} (h : ∀ d ∈ ds, Fine n d) : Fine (n + 1) (.list ds) := by
  have t := fine_tup h
  refine ⟨?_, ?_⟩
  · have a := t.1
    simp only [PyData.canLay0] at a ⊢
    exact a
  · have a := t.2
    simp only [PyData.depth] at a ⊢
    exact a
theorem ok_wrong (T : Txt K mg) : FnOk P w K mg base CX0 8 T.a_wrong T.d_wrong ["_law_state", "_law_panel", "_law_plan", "_law_model"] (sp_wrong K T.C T.HC T.PC) := by
  refine T.F_wrong.ok sc_wrong (fun vs H Q E h => ?_) (fun cdv A outer s H vs Q E hr h => ?_)
  · obtain ⟨b, p, u, mm, n, h, s, M, rfl, _⟩ := h
    rfl
  · obtain ⟨b, p, u, mm, n, h, st, M, rfl, hbag, hn, hu, ok, pr, kk⟩ := h
    have hl := ok.ri.len
    have cl : h.l.count true ≤ h.l.length := List.count_le_length
    have n1 := ok.n1
    have nl := ok.nl
    refine ⟨_, (pss_cons (ps_set (i := 4) sc_wrong.nd rfl (Or.inl rfl) (pe_call (ok_draw T) (hr.mono (by decide)) (by rfl) T.g_draw T.F_draw.kp T.b_draw .nil pass0 (pa_cons (pv 0) (pa_cons pe_int pa_nil))))
      (pss_cons (ps_set (i := 5) sc_wrong.nd rfl (Or.inl rfl) (pe_callB call_len_seq (by rfl) T.z_len PySem.boot_len (pa_cons (pe_ix ix_list (pv 3) pe_int (fun _ _ => rfl)) pa_nil)))
      (C8.pss_cut (ps_set (i := 6) sc_wrong.nd rfl (Or.inl rfl) pe_non)
      (pss_cons (ps_set (i := 7) sc_wrong.nd rfl (Or.inl rfl) pe_non)
      (pss_cons (Ta.ps_try_ass (W := fun _ _ _ _ => False) rfl rfl sc_wrong.nd takes0 (fun U pn xe tk _ => (pss_one (ps_if (pt_cmpR op_eq (pv 4) pe_int (nomark _))
          (pss_cons (ps_set (i := 7) sc_wrong.nd rfl (Or.inl rfl) (pe_tup (pa_cons pe_str (pa_cons (pe_tup (pa_cons pe_str (pa_cons (pe_op op_add (pe_callB call_len_str (by rfl) T.z_len PySem.boot_len (pa_cons (pe_ix (show IxR _ (rIxT K) from ix_tup) (pv 2) pe_int (fun _ _ => rfl)) pa_nil)) pe_int) pa_nil))) pa_nil))))
          (pss_one (ps_expr (MS.pe_methS (pv 1) T.clPC T.m_put_fault (ok_put_fault T) (hr.mono (by decide)) T.b_put_fault (fun σ => passAt tk σ) (by exact (pa_cons (pe_tup (pa_cons pe_str (pa_cons (pe_op op_add (pe_callB call_len_str (by rfl) T.z_len PySem.boot_len (pa_cons (pe_ix (show IxR _ (rIxT K) from ix_tup) (pv 2) pe_int (fun _ _ => rfl)) pa_nil)) pe_int) pa_nil))) pa_nil))))))
          (pss_one (ps_if (pt_cmpR op_eq (pv 4) pe_int (nomark _))
            (pss_cons (ps_set (i := 7) sc_wrong.nd rfl (Or.inl rfl) (pe_tup (pa_cons pe_str (pa_cons (pe_lst (pa_cons pe_str (pa_cons pe_int pa_nil))) pa_nil))))
            (pss_one (ps_expr (MS.pe_methS (pv 1) T.clPC T.m_mend_fault (ok_mend_fault T) (hr.mono (by decide)) T.b_mend_fault (fun σ => passAt tk σ) (by exact (pa_cons (pe_lst (pa_cons pe_str (pa_cons pe_int pa_nil))) pa_nil))))))
            (pss_one (ps_if (pt_cmpR op_eq (pv 4) pe_int (nomark _))
              (pss_cons (ps_set (i := 7) sc_wrong.nd rfl (Or.inl rfl) (pe_tup (pa_cons pe_str (pa_cons (pe_op op_sub (pv 5) pe_int) pa_nil))))
              (pss_one (ps_expr (MS.pe_methS (pv 1) T.clPC T.m_beat (ok_beat T) (hr.mono (by decide)) T.b_beat (fun σ => passAt tk σ) (by exact (pa_cons (pe_op op_rep (pe_lst (pa_cons pe_non pa_nil)) (pe_op op_sub (pv 5) pe_int)) pa_nil))))))
              (pss_cons (ps_set (i := 7) sc_wrong.nd rfl (Or.inl rfl) (pe_tup (pa_cons pe_str (pa_cons (pe_op op_sub (pv 5) pe_int) pa_nil))))
              (pss_one (ps_expr (MS.pe_methS (pv 1) T.clPC T.m_beat (ok_beat T) (hr.mono (by decide)) T.b_beat (fun σ => passAt tk σ) (by exact (pa_cons (pe_op op_cat (pe_op op_rep (pe_lst (pa_cons (pe_op op_add (pe_ix (show IxR _ (rIxT K) from ix_tup) (pv 2) pe_int (fun _ _ => rfl)) pe_int) pa_nil)) (pe_op op_sub (pv 5) pe_int)) (pe_lst (pa_cons pe_bl pa_nil))) pa_nil))))))))))))) (Ta.Hds.cons (h := ⟨Value.ref T.CF, 8, _⟩) rfl rfl ⟨rfl, by decide, Or.inl T.lowF.gC⟩ (fun a oe cls d pn hz hf => (pss_one (ps_set (i := 6) sc_wrong.nd rfl (Or.inl rfl) (pe_tup (pa_cons pe_str (pa_cons (pe_byLowF T.lowF hz hf (pv 8)) pa_nil)))))) (Ta.Hds.cons (h := ⟨Value.ref T.CV, 8, _⟩) rfl rfl ⟨rfl, by decide, Or.inl T.lowV.gC⟩ (fun a oe cls d pn hz hf => (pss_one (ps_set (i := 6) sc_wrong.nd rfl (Or.inl rfl) (pe_tup (pa_cons (pe_byLowVa T.lowV hz hf (pv 8)) (pa_cons (pe_byLowVb T.lowV hz hf (pv 8)) pa_nil)))))) Ta.Hds.nil)))
      (pss_one (ps_ret (pe_cmpR (op_eqD hr.units) (pv 6) (pv 7) (nomark _))))))))), ?_⟩
    refine ⟨_, rfl, b, n, 4, rfl, by decide, by decide, hbag, by omega, fun A1 d e0 e1 bag1 but1 => ?_⟩
    have pr1 := pr.bt hbag but1
    have hu1 := SqT.k hu (kt_bt hbag but1)
    have kk : ∀ H', Same A1 H' → Q (.bl true) H' := fun H' s' => kk H' (bag1.keep s') (but1.trans (Bt.of s'))
    clear pr hu hbag
    obtain ⟨g, fa, ha, ca, hr0, a1, a2, a3, a4, a5, a6, a7, a8, a9⟩ := id pr1.pan
    obtain ⟨dx, fs, hh, hp, lf, lk, gh, hA, no⟩ := id hr0
    obtain ⟨f, c, xs, hm, hf, dxs, hc⟩ := id pr1.mod
    refine ⟨_, rfl, mm, _, _, _, rfl, rfl, SqL.of hm, atI_nat (j := 1) rfl, c, _, rfl, .inl (SqL.of hc), ?_⟩
    rw [nV_len, a8]
    refine ⟨fun σ B => σ = [some (.ref b), some (.ref p), some (.ref u), some (.ref mm), some (.int d), some (.int ((h.l.count true : Nat) : Int)), some .non, none, none] ∧ B = A1, ⟨rfl, rfl⟩, ?_⟩
    rintro σ B ⟨rfl, rfl⟩
    have ez : (((rgS h.l).length : Nat) : Int) + 1 = ((h.l.length + 1 : Nat) : Int) := by rw [rgS_len]; omega
    refine ⟨_, rfl, rfl, _, rfl, ite2 (fun c => ?_) (fun c => ?_)⟩
    · refine ⟨_, rfl, u, _, _, _, rfl, rfl, hu1, atI_nat (j := 0) rfl, _, rfl, rg_small (by omega), _, _, rfl, rfl, small_len (by show 2 ≤ 100000; decide), fun t1 h1 => ?_⟩
      generalize x1 : upd B t1 _ = B1
      obtain ⟨s1, e1⟩ := got x1 h1
      dsimp only at e1
      rw [ez] at e1
      refine ⟨small_len (by show 2 ≤ 100000; decide), fun t2 h2 => ?_⟩
      generalize x2 : upd B1 t2 _ = B2
      obtain ⟨s2, e2⟩ := got x2 h2
      have s12 := s1.trans s2
      refine ⟨_, rfl, p, dx, fs, rfl, s12 _ _ hp, pn_meth "put_fault" lk no (by decide +kernel), _, rfl, u, _, _, _, rfl, rfl, sameT s12 hu1, atI_nat (j := 0) rfl, _, rfl, rg_small (by omega), _, _, rfl, rfl, small_len (by show 2 ≤ 100000; decide), fun t3 h3 => ?_⟩
      generalize x3 : upd B2 t3 _ = B3
      obtain ⟨s3, e3⟩ := got x3 h3
      dsimp only at e3
      rw [ez] at e3
      have s13 := s12.trans s3
      refine ⟨p, .ref t3, h, st, rfl, pr1.pan.ks s13, ok, .inr ⟨.snd (SqT.of e3) rfl (.int _) ?_, fun C1 dd s4 e4 => ?_⟩⟩
      · show (decide ((0 : Int) ≤ ((h.l.length + 1 : Nat) : Int)) && decide (((h.l.length + 1 : Nat) : Int) ≤ ((h.l.length : Nat) : Int))) = false
        rw [decide_eq_false (show ¬ ((h.l.length + 1 : Nat) : Int) ≤ ((h.l.length : Nat) : Int) by omega), Bool.and_false]
      · refine ⟨true, T.lowF.te, fun _ a0 ha0 => ?_, fun z => Bool.noConfusion z⟩
        refine ⟨_, rfl, rfl, rfl, dd, _, rfl, e4, small_len (by show 2 ≤ 100000; decide), fun t ht => ?_⟩
        have s5 := same_new (o := .tup [.str "fault", .ref t3]) ht
        have s45 := s4.trans s5
        refine ⟨_, rfl, _, rfl, ?_⟩
        refine eq_like (d := .tuple [.str "fault", .tuple [.str "short", .int ((h.l.length + 1 : Nat) : Int)]]) (n := 3) (.tup (SqT.of upd_same) (.cons (.str _) (.cons (.tup (SqT.of (s45 _ _ e3)) (.cons (.str _) (.cons (.int _) .nil))) .nil))) (.tup (SqT.of ((s3.trans s45) _ _ e2)) (.cons (.str _) (.cons (.tup (SqT.of (((s2.trans s3).trans s45) _ _ e1)) (.cons (.str _) (.cons (.int _) .nil))) .nil))) ?_ (by decide) (kk _ (s13.trans s45))
        exact fine_pair "fault" (by decide +kernel) (fine_pair "short" (by decide +kernel) (fine_int (n := 1) _))
    refine ⟨_, rfl, rfl, _, rfl, ite2 (fun c => ?_) (fun c => ?_)⟩
    · refine ⟨small_len (by show 2 ≤ 100000; decide), fun t1 h1 => ?_⟩
      generalize x1 : upd B t1 _ = B1
      obtain ⟨s1, e1⟩ := got x1 h1
      refine ⟨small_len (by show 2 ≤ 100000; decide), fun t2 h2 => ?_⟩
      generalize x2 : upd B1 t2 _ = B2
      obtain ⟨s2, e2⟩ := got x2 h2
      have s12 := s1.trans s2
      refine ⟨_, rfl, p, dx, fs, rfl, s12 _ _ hp, pn_meth "mend_fault" lk no (by decide +kernel), small_len (by show 2 ≤ 100000; decide), fun t3 h3 => ?_⟩
      generalize x3 : upd B2 t3 _ = B3
      obtain ⟨s3, e3⟩ := got x3 h3
      have s13 := s12.trans s3
      refine ⟨p, .ref t3, h, st, rfl, pr1.pan.ks s13, ok, .inr ⟨.lst (SqL.of e3), fun C1 dd s4 e4 => ?_⟩⟩
      refine ⟨true, T.lowF.te, fun _ a0 ha0 => ?_, fun z => Bool.noConfusion z⟩
      refine ⟨_, rfl, rfl, rfl, dd, _, rfl, e4, small_len (by show 2 ≤ 100000; decide), fun t ht => ?_⟩
      have s5 := same_new (o := .tup [.str "fault", .ref t3]) ht
      have s45 := s4.trans s5
      refine ⟨_, rfl, _, rfl, ?_⟩
      refine eq_like (d := .tuple [.str "fault", .list [.str "cut", .int 0]]) (n := 3) (.tup (SqT.of upd_same) (.cons (.str _) (.cons (.lst (SqL.of (s45 _ _ e3)) (.cons (.str _) (.cons (.int _) .nil))) .nil))) (.tup (SqT.of ((s3.trans s45) _ _ e2)) (.cons (.str _) (.cons (.lst (SqL.of (((s2.trans s3).trans s45) _ _ e1)) (.cons (.str _) (.cons (.int _) .nil))) .nil))) ?_ (by decide) (kk _ (s13.trans s45))
      exact fine_pair "fault" (by decide +kernel) (fine_lst (n := 1) fun z m => (by
        rcases List.mem_cons.mp m with rfl | m
        · exact fine_str (by decide +kernel)
        · rw [List.mem_singleton.mp m]
          exact fine_int _))
    have kn : ((((h.l.count true : Nat) : Int) - 1)).toNat = h.l.count true - 1 := by omega
    have kz : ((h.l.count true : Nat) : Int) - 1 = ((h.l.count true - 1 : Nat) : Int) := by omega
    refine ⟨_, rfl, rfl, _, rfl, ite2 (fun c => ?_) (fun c => ?_)⟩
    · refine ⟨_, rfl, _, _, rfl, rfl, small_len (by show 2 ≤ 100000; decide), fun t1 h1 => ?_⟩
      generalize x1 : upd B t1 _ = B1
      obtain ⟨s1, e1⟩ := got x1 h1
      dsimp only at e1
      rw [kz] at e1
      refine ⟨_, rfl, p, dx, fs, rfl, s1 _ _ hp, pn_meth "beat" lk no (by decide +kernel), small_len (by show 1 ≤ 100000; decide), fun L hL => ?_⟩
      generalize x2 : upd B1 L _ = B2
      obtain ⟨s2, e2⟩ := got x2 hL
      refine ⟨_, rfl, _, _, rfl, rfl, L, _, _, rfl, rfl, e2, by omega, by omega, by rw [kn]; exact small_len (by show 1 * _ ≤ 100000; omega), fun q hq => ?_⟩
      rw [kn, flat_rep]
      generalize x3 : upd B2 q _ = B3
      obtain ⟨s3, e3⟩ := got x3 hq
      have s13 := (s1.trans s2).trans s3
      have hb := LvIs.len (K := K) (H := B3) (q := q) (n := h.l.count true) (t := false) (xs := List.replicate (h.l.count true - 1) V.non) (SqL.of e3) (by rw [List.length_replicate]; omega) (by rw [List.length_replicate]; omega)
      rw [List.length_replicate] at hb
      refine ⟨p, q, h, st, _, rfl, pr1.pan.ks s13, ok, hb, fun C1 dd s4 e4 => ?_⟩
      refine ⟨false, T.xVF, fun z => Bool.noConfusion z, fun _ => ⟨true, T.lowV.te, fun _ a0 ha0 => ?_, fun z => Bool.noConfusion z⟩⟩
      refine ⟨_, rfl, rfl, rfl, dd, _, _, rfl, e4, rfl, _, rfl, rfl, rfl, dd, _, _, rfl, e4, rfl, small_len (by show 2 ≤ 100000; decide), fun t ht => ?_⟩
      have s5 := same_new (o := .tup [.str "length", .int ((h.l.count true - 1 : Nat) : Int)]) ht
      have s45 := s4.trans s5
      refine ⟨_, rfl, _, rfl, ?_⟩
      exact eq_like (d := .tuple [.str "length", .int ((h.l.count true - 1 : Nat) : Int)]) (n := 2) (.tup (SqT.of upd_same) (.cons (.str _) (.cons (.int _) .nil))) (.tup (SqT.of (((s2.trans s3).trans s45) _ _ e1)) (.cons (.str _) (.cons (.int _) .nil))) (fine_pair "length" (by decide +kernel) (fine_int (n := 1) _)) (by decide) (kk _ (s13.trans s45))
    · refine ⟨_, rfl, _, _, rfl, rfl, small_len (by show 2 ≤ 100000; decide), fun t1 h1 => ?_⟩
      generalize x1 : upd B t1 _ = B1
      obtain ⟨s1, e1⟩ := got x1 h1
      dsimp only at e1
      rw [kz] at e1
      refine ⟨_, rfl, p, dx, fs, rfl, s1 _ _ hp, pn_meth "beat" lk no (by decide +kernel), _, rfl, u, _, _, _, rfl, rfl, sameT s1 hu1, atI_nat (j := 1) rfl, _, _, rfl, rfl, small_len (by show 1 ≤ 100000; decide), fun L hL => ?_⟩
      generalize x2 : upd B1 L _ = B2
      obtain ⟨s2, e2⟩ := got x2 hL
      refine ⟨_, rfl, _, _, rfl, rfl, L, _, _, rfl, rfl, e2, by omega, by omega, by rw [kn]; exact small_len (by show 1 * _ ≤ 100000; omega), fun q hq => ?_⟩
      rw [kn, flat_rep]
      generalize x3 : upd B2 q _ = B3
      obtain ⟨s3, e3⟩ := got x3 hq
      refine ⟨small_len (by show 1 ≤ 100000; decide), fun L2 hL2 => ?_⟩
      generalize x4 : upd B3 L2 _ = B4
      obtain ⟨s4, e4⟩ := got x4 hL2
      refine ⟨q, L2, _, _, rfl, rfl, s4 _ _ e3, e4, small_len (by rw [List.length_replicate]; show _ + 1 ≤ 100000; omega), fun D hD => ?_⟩
      generalize x5 : upd B4 D _ = B5
      obtain ⟨s5, e5⟩ := got x5 hD
      have s25 := ((s2.trans s3).trans s4).trans s5
      have s15 := s1.trans s25
      have eq : List.replicate (h.l.count true - 1) (V.int (h.m + 1)) ++ [V.bl true] = (List.replicate (h.l.count true - 1) (h.m + 1)).map V.int ++ V.bl true :: [] := by rw [List.map_replicate]
      dsimp only at e5
      rw [eq] at e5
      have hb := LvIs.level (K := K) (H := B5) (q := D) (n := h.l.count true) (t := false) (ms := List.replicate (h.l.count true - 1) (h.m + 1)) (x := V.bl true) (rest := []) (SqL.of e5) (by rw [List.length_append, List.length_map, List.length_replicate]; show _ + 1 = _; omega) (.bl true)
      rw [List.length_replicate] at hb
      refine ⟨p, D, h, st, _, rfl, pr1.pan.ks s15, ok, hb, fun C1 dd s6 e6 => ?_⟩
      refine ⟨false, T.xVF, fun z => Bool.noConfusion z, fun _ => ⟨true, T.lowV.te, fun _ a0 ha0 => ?_, fun z => Bool.noConfusion z⟩⟩
      refine ⟨_, rfl, rfl, rfl, dd, _, _, rfl, e6, rfl, _, rfl, rfl, rfl, dd, _, _, rfl, e6, rfl, small_len (by show 2 ≤ 100000; decide), fun t ht => ?_⟩
      have s7 := same_new (o := .tup [.str "level", .int ((h.l.count true - 1 : Nat) : Int)]) ht
      have s67 := s6.trans s7
      refine ⟨_, rfl, _, rfl, ?_⟩
      exact eq_like (d := .tuple [.str "level", .int ((h.l.count true - 1 : Nat) : Int)]) (n := 2) (.tup (SqT.of upd_same) (.cons (.str _) (.cons (.int _) .nil))) (.tup (SqT.of ((s25.trans s67) _ _ e1)) (.cons (.str _) (.cons (.int _) .nil))) (fine_pair "level" (by decide +kernel) (fine_int (n := 1) _)) (by decide) (kk _ (s15.trans s67))
end
end K52

namespace K52
open PySem L2 Wm TL Dv Rm Lo
section
variable {P : Program} {w : World} {K : PySem.W.Frag} {mg : Str → Option Value} {base : Heap}
theorem ok_silent (T : Txt K mg) : FnOk P w K mg base CX0 10 T.a_silent T.d_silent ["_law_house", "_law_bad"] (sp_silent K T.C T.HC T.PC) := by
  refine T.F_silent.ok sc_silent (fun vs H Q E h => ?_) (fun cdv A outer s H vs Q E hr h => ?_)
  · obtain ⟨p, x, h, rfl, _⟩ := h
    rfl
  · obtain ⟨p, x, h, rfl, hA, ok, od, kk⟩ := h
    have hl := ok.ri.len
    obtain ⟨dh, fh, rq, hhp, l1, l2, l3, l4, l5, l6, l7, l8, rr⟩ := id hA
    refine ⟨_, (pss_cons (ps_set (i := 2) sc_silent.nd rfl (Or.inl rfl) (pe_lst pa_nil))
      (pss_cons (Ta.ps_try_ass (W := fun _ _ _ _ => False) rfl rfl sc_silent.nd takes0 (fun U pn xe tk _ => (pss_one (ps_expr (pe_callS (ok_first_warning T) (hr.mono (by decide)) (by rfl) T.g_first_warning T.F_first_warning.kp T.b_first_warning (fun σ => passAt tk σ) (by exact (pa_cons (pv 0) (pa_cons (pe_lst (pa_cons pe_non pa_nil)) (pa_cons (pe_lst (pa_cons (pe_tup (pa_cons pe_str (pa_cons pe_int pa_nil))) (pa_cons (pv 1) pa_nil))) pa_nil)))))))) (Ta.Hds.cons (h := ⟨Value.ref T.CF, 3, _⟩) rfl rfl ⟨rfl, by decide, Or.inl T.lowF.gC⟩ (fun a oe cls d pn hz hf => (pss_one (ps_expr (Kw.pe_bmQ (K := K) (r := fun k => tBM k _ _ _ _) (pe_bm PySem.F.plainAttrs_list PySem.F.slot_list_append PySem.F.type_list_append mt_append (pv 2) (pa_cons (pe_byLowF T.lowF hz hf (pv 3)) pa_nil)) rfl)))) Ta.Hds.nil))
      (pss_cons (Ta.ps_try_ass (W := fun _ _ _ _ => False) rfl rfl sc_silent.nd takes0 (fun U pn xe tk _ => (pss_one (ps_expr (MR.pe_methRS (pv 0) T.clHC T.m_is_silent (ok_is_silent T) (hr.mono (by decide)) (fun σ => passAt tk σ) (by exact (pa_cons (pe_tup (pa_cons pe_str (pa_cons pe_int pa_nil))) (pa_cons (pv 1) pa_nil))))))) (Ta.Hds.cons (h := ⟨Value.ref T.CF, 3, _⟩) rfl rfl ⟨rfl, by decide, Or.inl T.lowF.gC⟩ (fun a oe cls d pn hz hf => (pss_one (ps_expr (Kw.pe_bmQ (K := K) (r := fun k => tBM k _ _ _ _) (pe_bm PySem.F.plainAttrs_list PySem.F.slot_list_append PySem.F.type_list_append mt_append (pv 2) (pa_cons (pe_byLowF T.lowF hz hf (pv 3)) pa_nil)) rfl)))) Ta.Hds.nil))
      (pss_cons (Ta.ps_try_ass (W := fun _ _ _ _ => False) rfl rfl sc_silent.nd takes0 (fun U pn xe tk _ => (pss_one (ps_expr (pe_callS (ok_false_levels T) (hr.mono (by decide)) (by rfl) T.g_false_levels T.F_false_levels.kp T.b_false_levels (fun σ => passAt tk σ) (by exact (pa_cons (pv 0) (pa_cons (pe_lst (pa_cons (pv 1) (pa_cons pe_non pa_nil))) pa_nil))))))) (Ta.Hds.cons (h := ⟨Value.ref T.CF, 3, _⟩) rfl rfl ⟨rfl, by decide, Or.inl T.lowF.gC⟩ (fun a oe cls d pn hz hf => (pss_one (ps_expr (Kw.pe_bmQ (K := K) (r := fun k => tBM k _ _ _ _) (pe_bm PySem.F.plainAttrs_list PySem.F.slot_list_append PySem.F.type_list_append mt_append (pv 2) (pa_cons (pe_byLowF T.lowF hz hf (pv 3)) pa_nil)) rfl)))) Ta.Hds.nil))
      (pss_one (ps_ret (pv 2))))))), ?_⟩
    refine ⟨small_len (by show 0 ≤ 100000; decide), fun D hD => ?_⟩
    generalize x0 : upd H D _ = A0
    obtain ⟨s0, e0⟩ := got x0 hD
    refine ⟨_, rfl, small_len (by show 1 ≤ 100000; decide), fun L1 h1 => ?_⟩
    generalize x1 : upd A0 L1 _ = A1
    obtain ⟨s1, e1⟩ := got x1 h1
    refine ⟨small_len (by show 2 ≤ 100000; decide), fun t1 h2 => ?_⟩
    generalize x2 : upd A1 t1 _ = A2
    obtain ⟨s2, e2⟩ := got x2 h2
    refine ⟨_, rfl, small_len (by show 2 ≤ 100000; decide), fun L2 h3 => ?_⟩
    generalize x3 : upd A2 L2 _ = A3
    obtain ⟨s3, e3⟩ := got x3 h3
    have s13 := (s1.trans s2).trans s3
    have s03 := s0.trans s13
    refine ⟨p, L1, L2, h, rfl, hA.keep s03, ok, .inl ⟨x, ⟨false, [V.ref t1], [], [(true, 0)], SqL.of e3, .cons (.tup (SqT.of (s3 _ _ e2)) (.cons (.str _) (.cons (.int _) .nil))) .nil, ⟨by decide, fun f m => by rw [List.mem_singleton.mp m]; exact Nat.zero_le _⟩, od.k s03⟩, fun C1 dd s4 d4 => ?_⟩⟩
    refine ⟨true, T.lowF.te, fun _ a0 ha0 => ?_, fun z => Bool.noConfusion z⟩
    have s04 := s03.trans s4
    have eD := (s13.trans s4) _ _ e0
    refine ⟨_, rfl, .inl ⟨rfl, _, SqL.of eD⟩, _, rfl, rfl, rfl, dd, x, rfl, d4, D, _, _, rfl, rfl, eD, small1000 (by show 0 ≤ 1000; decide), ?_⟩
    have hD0 : H D = none := hD
    have sm1 := same_mut (o := .lst ([] ++ [x])) s04 hD0
    have eD1 : (upd C1 D (.lst ([] ++ [x]))) D = some (.lst [x]) := upd_same
    generalize upd C1 D _ = C2 at *
    clear s4 s04 eD d4 e0 e1 e2 e3 x0 x1 x2 x3
    refine ⟨_, rfl, p, dh, fh, rfl, sm1 _ _ hhp, hn_meth "is_silent" l8 (by decide +kernel), small_len (by show 2 ≤ 100000; decide), fun t2 h4 => ?_⟩
    generalize x4 : upd C2 t2 _ = B1
    obtain ⟨s5, e5⟩ := got x4 h4
    have s05 := sm1.trans s5
    refine ⟨_, rfl, [V.ref p], [V.ref t2, x], rfl, rfl, small_len (by show 2 ≤ 100000; decide), fun t3 h5 => ?_⟩
    generalize x5 : upd B1 t3 _ = B2
    obtain ⟨s6, e6⟩ := got x5 h5
    have s06 := s05.trans s6
    refine ⟨p, t3, h, rfl, hA.keep s06, hl, .inr ⟨x, ⟨true, [V.ref t2], [], [(false, 0)], SqT.of e6, .cons (.tup (SqT.of (s6 _ _ e5)) (.cons (.str _) (.cons (.int _) .nil))) .nil, ⟨by decide, fun f m => by rw [List.mem_singleton.mp m]; exact Nat.zero_le _⟩, od.k s06⟩, fun C3 dd2 s7 d7 => ?_⟩⟩
    refine ⟨true, T.lowF.te, fun _ a1 ha1 => ?_, fun z => Bool.noConfusion z⟩
    have s07 := s06.trans s7
    have eD3 := ((s5.trans s6).trans s7) _ _ eD1
    refine ⟨_, rfl, .inl ⟨rfl, _, SqL.of eD3⟩, _, rfl, rfl, rfl, dd2, x, rfl, d7, D, _, _, rfl, rfl, eD3, small1000 (by show 1 ≤ 1000; decide), ?_⟩
    have sm2 := same_mut (o := .lst ([x] ++ [x])) s07 hD0
    have eD4 : (upd C3 D (.lst ([x] ++ [x]))) D = some (.lst [x, x]) := upd_same
    generalize upd C3 D _ = C4 at *
    refine ⟨_, rfl, _, rfl, small_len (by show 2 ≤ 100000; decide), fun L3 h6 => ?_⟩
    generalize x6 : upd C4 L3 _ = B3
    obtain ⟨s8, e8⟩ := got x6 h6
    have s08 := sm2.trans s8
    refine ⟨p, L3, h, rfl, hA.keep s08, ok, .inl ⟨x, ⟨false, [], [V.non], [], SqL.of e8, .nil, ⟨by decide, fun f m => by cases m⟩, od.k s08⟩, fun C5 dd3 s9 d9 => ?_⟩⟩
    refine ⟨true, T.lowF.te, fun _ a2 ha2 => ?_, fun z => Bool.noConfusion z⟩
    have s09 := s08.trans s9
    have eD5 := (s8.trans s9) _ _ eD4
    refine ⟨_, rfl, .inl ⟨rfl, _, SqL.of eD5⟩, _, rfl, rfl, rfl, dd3, x, rfl, d9, D, _, _, rfl, rfl, eD5, small1000 (by show 2 ≤ 1000; decide), ?_⟩
    exact ⟨_, rfl, kk _ D (same_mut s09 hD0) upd_same⟩
end
end K52

namespace K52
open PySem L2 Wm TL Dv Rm Lo
section
variable {P : Program} {w : World} {K : PySem.W.Frag} {mg : Str → Option Value} {base : Heap}
/-- list(x), inside a comprehension -/
def rLst (K : PySem.W.Frag) : List V → Hp → VK → Prop := fun xs H Q => ∃ p ys, xs = [.ref p] ∧ (SqL K H p ys ∨ SqT K H p ys) ∧ ∀ l, H l = none → Q (.ref l) (upd H l (.lst ys))
/-! ### runs with the same faults heard -/
theorem run_ear {h : Hs} : ∀ (rs : List (List Int)) {fs gs : List Ft} (cs : List Nat) (al : Bool), heardL h.l (opn h.l fs) = heardL h.l (opn h.l gs) → (runP h ⟨fs, cs, al⟩ rs).1 = (runP h ⟨gs, cs, al⟩ rs).1
  | [], _, _, _, _, _ => rfl
  | ms :: r, fs, gs, cs, al, e => by
    have es : stepC h fs cs ms = stepC h gs cs ms := by unfold stepC; rw [e]
    show (alarm h (stepC h fs cs ms) && !al) :: (runP h ⟨fs, stepC h fs cs ms, alarm h (stepC h fs cs ms)⟩ r).1 = (alarm h (stepC h gs cs ms) && !al) :: (runP h ⟨gs, stepC h gs cs ms, alarm h (stepC h gs cs ms)⟩ r).1
    rw [es, run_ear r _ _ e]
theorem fold_mem (l : List Bool) : ∀ (fs a : List Ft), (∀ f ∈ a, f.2 ≤ l.length) → (∀ f ∈ fs, f.2 ≤ l.length) → ∀ f, f ∈ fs.foldl (fun a f => norm l (a ++ [f])) a ↔ f ∈ a ∨ f ∈ fs
  | [], a, _, _, f => by simp
  | x :: fs, a, da, df, f => by
    rw [List.foldl_cons, fold_mem l fs _ (fun g m => (norm_mem.mp m).1) (fun g m => df g (List.mem_cons_of_mem _ m)) f, norm_mem, List.mem_append, List.mem_singleton, List.mem_cons]
    constructor
    · rintro (⟨_, m | m⟩ | m)
      · exact .inl m
      · exact .inr (.inl m)
      · exact .inr (.inr m)
    · rintro (m | m | m)
      · exact .inl ⟨da f m, .inl m⟩
      · subst m
        exact .inl ⟨df f List.mem_cons_self, .inr rfl⟩
      · exact .inr m
theorem run_puts {h : Hs} {s : Ps} {M F : List Ft} (e : s.fs = norm h.l M) (dm : ∀ f ∈ M, f.2 ≤ h.l.length) (df : ∀ f ∈ F, f.2 ≤ h.l.length) (rs : List (List Int)) : (runP h (putsP h s F) rs).1 = (runP h ⟨M ++ F, s.cs, s.al⟩ rs).1 := by
  refine run_ear rs _ _ (heard_congr fun f => ?_)
  rw [fold_mem h.l F s.fs (fun g m => by rw [e] at m; exact (norm_mem.mp m).1) df f, e, norm_mem, List.mem_append]
  exact ⟨fun z => z.imp (fun y => y.2) id, fun z => z.imp (fun y => ⟨dm f y, y⟩) id⟩
/-! ### rows of levels -/
inductive Rws (H : Hp) (n : Nat) : List V → List (List Int) → Prop
  | nil : Rws H n [] []
  | cons {a : Addr} {ms : List Int} {ys : List V} {rs : List (List Int)} : ms.length = n → H a = some (.lst (ms.map V.int)) → Rws H n ys rs → Rws H n (.ref a :: ys) (ms :: rs)
theorem Rws.len {H : Hp} {n : Nat} {ys : List V} {rs : List (List Int)} (h : Rws H n ys rs) : ys.length = rs.length := by
  induction h with
  | nil => rfl
  | cons _ _ _ ih => rw [List.length_cons, List.length_cons, ih]
theorem Rws.keep {H H' : Hp} {n : Nat} {ys : List V} {rs : List (List Int)} (h : Rws H n ys rs) (s : Same H H') : Rws H' n ys rs := by
  induction h with
  | nil => exact .nil
  | cons a b _ ih => exact .cons a (s _ _ b) ih
theorem Rws.bt {H H' : Hp} {b : Addr} {k n : Nat} {ys : List V} {rs : List (List Int)} (h : Rws H n ys rs) (bag : Bg H b k) (e : Bt b H H') : Rws H' n ys rs := by
  induction h with
  | nil => exact .nil
  | @cons a ms ys rs l hb _ ih => exact .cons l (e.keep _ _ (bg_no bag hb fun _ _ _ _ _ z => by cases ms <;> cases z) hb) ih
theorem Rws.snoc {H : Hp} {n : Nat} {ys : List V} {rs : List (List Int)} {a : Addr} {ms : List Int} (h : Rws H n ys rs) (l : ms.length = n) (e : H a = some (.lst (ms.map V.int))) : Rws H n (ys ++ [.ref a]) (rs ++ [ms]) := by
  induction h with
  | nil => exact .cons l e .nil
  | cons a b _ ih => exact .cons a b ih
theorem Rws.get {H : Hp} {n : Nat} {ys : List V} {rs : List (List Int)} (h : Rws H n ys rs) : ∀ (i : Nat) x ms, ys[i]? = some x → rs[i]? = some ms → ms.length = n ∧ ∃ a, x = .ref a ∧ H a = some (.lst (ms.map V.int)) := by
  induction h with
  | nil => intro i x ms hx _; cases hx
  | @cons a ms0 ys rs l e _ ih =>
    intro i x ms hx hm
    cases i with
    | zero =>
      cases hx
      cases hm
      exact ⟨l, a, rfl, e⟩
    | succ i => exact ih i x ms hx hm
theorem Rws.of {H : Hp} {n : Nat} : ∀ {ys : List V} {rs : List (List Int)}, ys.length = rs.length → (∀ (i : Nat) x ms, ys[i]? = some x → rs[i]? = some ms → ms.length = n ∧ ∃ a, x = .ref a ∧ H a = some (.lst (ms.map V.int))) → Rws H n ys rs
  | [], [], _, _ => .nil
  | x :: ys, ms :: rs, l, g => by
    obtain ⟨l0, a, rfl, e⟩ := g 0 x ms rfl rfl
    exact .cons l0 e (Rws.of (by simpa using l) fun i y m hy hm => g (i + 1) y m hy hm)
  | [], _ :: _, l, _ => by cases l
  | _ :: _, [], l, _ => by cases l
theorem Rws.good {H : Hp} {n : Nat} {ys : List V} {rs : List (List Int)} {t : Bool} {q : Addr} (h : Rws H n ys rs) (hq : Kd.Is K t H q ys) (l : rs.length ≤ 100) : RowsIs K H q n rs none := by
  refine ⟨t, ys, [], by rw [List.append_nil]; exact hq, h.len, by rw [List.append_nil, h.len]; exact l, fun i x ms hx hm => ?_, rfl⟩
  obtain ⟨l1, a, e, ha⟩ := h.get i x ms hx hm
  exact ⟨a, e, .good (t := false) (SqL.of ha) l1⟩
theorem Rws.bad {H : Hp} {n : Nat} {ys r : List V} {rs : List (List Int)} {t : Bool} {q a : Addr} {o : LvO} (h : Rws H n ys rs) (hq : Kd.Is K t H q (ys ++ .ref a :: r)) (l : (ys ++ V.ref a :: r).length ≤ 100) (ng : ∀ ms, o ≠ .good ms) (ho : LvIs K H a n o) : RowsIs K H q n rs (some o) := by
  refine ⟨t, ys, .ref a :: r, hq, h.len, l, fun i x ms hx hm => ?_, ng, a, r, rfl, ho⟩
  obtain ⟨l1, a, e, ha⟩ := h.get i x ms hx hm
  exact ⟨a, e, .good (t := false) (SqL.of ha) l1⟩
theorem Rws.beats {H : Hp} {n : Nat} {ys : List V} {rs : List (List Int)} {q : Addr} (h : Rws H n ys rs) (hq : H q = some (.lst ys)) (l : rs.length ≤ 50) : BeatsAt K H q n rs := by
  refine ⟨ys, hq, h.len, l, fun i x ms hx hm => ?_⟩
  obtain ⟨l1, a, e, ha⟩ := h.get i x ms hx hm
  exact ⟨l1, a, e, SqL.of ha⟩
theorem Rws.refs {H : Hp} {n : Nat} {ys : List V} {rs : List (List Int)} (h : Rws H n ys rs) : ∀ z ∈ ys, ∃ a, z = V.ref a := by
  induction h with
  | nil => intro z m; cases m
  | cons _ _ _ ih =>
    intro z m
    rcases List.mem_cons.mp m with rfl | m
    · exact ⟨_, rfl⟩
    · exact ih z m
theorem Rws.put {H : Hp} {n : Nat} {ys zs : List V} {rs : List (List Int)} {D : Addr} {o : HO} (h : Rws H n ys rs) (hD : H D = some (.lst zs)) (rf : ∀ z ∈ zs, ∃ a, z = V.ref a) (n1 : 1 ≤ n) : Rws (upd H D o) n ys rs := by
  induction h with
  | nil => exact .nil
  | @cons a ms ys rs l e _ ih =>
    refine .cons l ?_ ih
    rw [upd_ne fun z => ?_]
    · exact e
    · rw [z, hD] at e
      cases ms with
      | nil => rw [← l] at n1; cases n1
      | cons m ms =>
        cases e
        obtain ⟨a, z⟩ := rf (.int m) List.mem_cons_self
        cases z
theorem fine_bls {n : Nat} (bs : List Bool) : Fine (n + 1) (.tuple (bs.map PyData.bool)) := fine_tup fun d m => by
  obtain ⟨f, _, rfl⟩ := List.mem_map.mp m
  exact ⟨by simp [PyData.canLay0], by simp [PyData.depth]⟩
theorem bls_dps {H : Hp} (bs : List Bool) : DpAll K H (bs.map V.bl) (bs.map PyData.bool) := by
  induction bs with
  | nil => exact .nil
  | cons b r ih => exact .cons (.bl b) ih
end
end K52

namespace K52
open PySem L2 Wm TL Dv Rm Lo
section
variable {P : Program} {w : World} {K : PySem.W.Frag} {mg : Str → Option Value} {base : Heap}
theorem ok_trial (T : Txt K mg) : FnOk P w K mg base CX0 12 T.a_trial T.d_trial ["_law_state", "_law_panel", "_law_plan", "_law_model"] (sp_trial K T.C T.HC T.PC) := by
  refine T.F_trial.ok sc_trial (fun vs H Q E h => ?_) (fun cdv A outer s H vs Q E hr h => ?_)
  · obtain ⟨b, p, u, mm, n, h, s, M, rfl, _⟩ := h
    rfl
  · obtain ⟨b, p, u, mm, n, h, st, M, rfl, hbag, hn, hu, ok, pr, kk⟩ := h
    have hl := ok.ri.len
    have cl : h.l.count true ≤ h.l.length := List.count_le_length
    have n1 := ok.n1
    have nl := ok.nl
    have lM : M.length ≤ 22 := by
      have := nodup_len M pr.nd pr.dom
      omega
    have a8 : st.cs.length = h.l.count true := by
      obtain ⟨g, u, v, w, r, a1, a2, a3, a4, a5, a6, a7, a8, a9⟩ := pr.pan
      exact a8
    refine ⟨_, (pss_cons (ps_set (i := 4) sc_trial.nd rfl (Or.inr rfl) (pe_callB call_len_seq (by rfl) T.z_len PySem.boot_len (pa_cons (pe_ix ix_list (pv 3) pe_int (fun _ _ => rfl)) pa_nil)))
      (pss_cons (ps_set (i := 5) sc_trial.nd rfl (Or.inl rfl) (pe_call (ok_faults T) (hr.mono (by decide)) (by rfl) T.g_faults T.F_faults.kp T.b_faults .nil pass0 (pa_cons (pv 0) (pa_cons (pe_ix ix_tup (pv 2) pe_int (fun _ _ => rfl)) (pa_cons (pe_call (ok_draw T) (hr.mono (by decide)) (by rfl) T.g_draw T.F_draw.kp T.b_draw .nil pass0 (pa_cons (pv 0) (pa_cons pe_int pa_nil))) pa_nil)))))
      (pss_cons (ps_setLc (i := 6) (own := [("_law_k", 7)]) (g := gName 7) (tt := tYes) rfl sc_trial.nd rfl rfl (sw_true rfl rfl rfl (by decide +kernel)) (pi_range1 (by rfl) T.z_range (pa_cons (pe_call (ok_draw T) (hr.mono (by decide)) (by rfl) T.g_draw T.F_draw.kp T.b_draw .nil pass0 (pa_cons (pv 0) (pa_cons pe_int pa_nil))) pa_nil)) (blkOk_by (own := [("_law_k", 7)]) (N := nm_trial) (sc := (defScope s_trial)) (by decide +kernel)) (fun _ _ _ _ _ => pg_name (i := 7) sc_trial.nd rfl (Or.inl rfl)) (fun _ _ _ _ _ => pts_nil) (fun _ _ _ _ _ => (pe_call (ok_levels T) (hr.mono (by decide)) (by rfl) T.g_levels T.F_levels.kp T.b_levels .nil pass0 (pa_cons (pv 0) (pa_cons (pe_ix (show IxR _ (rIxT K) from ix_tup) (pv 2) pe_int (fun _ _ => rfl)) (pa_cons (pv 4) pa_nil))))))
      (pss_cons (ps_set (i := 8) sc_trial.nd rfl (Or.inl rfl) (pe_call (ok_run T) (hr.mono (by decide)) (by rfl) T.g_run T.F_run.kp T.b_run .nil pass0 (pa_cons (pv 2) (pa_cons (pv 3) (pa_cons (pv 5) (pa_cons (pv 6) pa_nil))))))
      (pss_cons (ps_set (i := 9) sc_trial.nd rfl (Or.inl rfl) (pe_call (ok_ltried T) (hr.mono (by decide)) (by rfl) T.g_ltried T.F_ltried.kp T.b_ltried .nil pass0 (pa_cons (pv 1) (pa_cons (pe_callTy call_list_of (by rfl) T.z_list (by decide +kernel) (pa_cons (pv 5) pa_nil)) (pa_cons (pe_lc (own := [("_law_levels_here", 10)]) (g := gName 10) (tt := tYes) rfl sc_trial.nd (pi_list (pv 6)) (blkOk_by (own := [("_law_levels_here", 10)]) (N := nm_trial) (sc := (defScope s_trial)) (by decide +kernel)) (fun _ _ _ _ _ => pg_name (i := 10) sc_trial.nd rfl (Or.inl rfl)) (fun _ _ _ _ _ => pts_nil) (fun _ _ _ _ _ => (pe_callTy (show CallR _ _ (rLst K) from call_list_of) (by rfl) T.z_list (by decide +kernel) (pa_cons (pv 10) pa_nil)))) pa_nil)))))
      (pss_cons (ps_if (PW.pt (pw_or (pt_cmpR (op_neD hr.units) (pv 9) (pv 8) (nomark _)) (pw_or1 (pt_not (pt_val (pe_callB (cr_all rfl) (by rfl) T.z_all (by decide +kernel) (pa_cons (pe_lc (own := [("_law_warns", 11)]) (g := gName 11) (tt := tYes) rfl sc_trial.nd (Kd.pi_seq (pv 9)) (blkOk_by (own := [("_law_warns", 11)]) (N := nm_trial) (sc := (defScope s_trial)) (by decide +kernel)) (fun _ _ _ _ _ => pg_name (i := 11) sc_trial.nd rfl (Or.inl rfl)) (fun _ _ _ _ _ => pts_nil) (fun _ _ _ _ _ => (pe_or (pe_cmpR op_isBl (pv 11) pe_bl (nomark _)) (pe_one (pe_cmpR op_isBl (pv 11) pe_bl (nomark _)))))) pa_nil)))))))
        (pss_one (ps_ret pe_bl))
        pss_nil)
      (pss_cons (ps_set (i := 12) sc_trial.nd rfl (Or.inl rfl) (pe_call (ok_draw T) (hr.mono (by decide)) (by rfl) T.g_draw T.F_draw.kp T.b_draw .nil pass0 (pa_cons (pv 0) (pa_cons pe_int pa_nil))))
      (pss_cons (ps_if (pt_cmpR op_eq (pv 12) pe_int (nomark _))
        (pss_one (ps_ret (pe_cmpR (op_eqD hr.units) (pe_call (ok_ltried T) (hr.mono (by decide)) (by rfl) T.g_ltried T.F_ltried.kp T.b_ltried .nil pass0 (pa_cons (pv 1) (pa_cons (pe_op op_cat (pv 5) (pe_lst (pa_cons (pe_tup (pa_cons pe_str (pa_cons (pe_un un_neg pe_int) pa_nil))) (pa_cons pe_non pa_nil)))) (pa_cons (pe_op op_cat (pv 6) (pe_lst (pa_cons (pe_lst pa_nil) pa_nil))) pa_nil)))) (pe_tup (pa_cons pe_str (pa_cons (pe_tup (pa_cons pe_str (pa_cons (pe_un un_neg pe_int) pa_nil))) pa_nil))) (nomark _))))
        pss_nil)
      (pss_cons (ps_if (pt_cmpR op_eq (pv 12) pe_int (nomark _))
        (pss_one (ps_ret (pe_cmpR (op_eqD hr.units) (pe_call (ok_ltried T) (hr.mono (by decide)) (by rfl) T.g_ltried T.F_ltried.kp T.b_ltried .nil pass0 (pa_cons (pv 1) (pa_cons (pv 5) (pa_cons (pe_op op_cat (pv 6) (pe_lst (pa_cons (pe_op op_rep (pe_lst (pa_cons (pe_ix ix_tup (pv 2) pe_int (fun _ _ => rfl)) pa_nil)) (pe_op op_add (pv 4) pe_int)) pa_nil))) pa_nil)))) (pe_tup (pa_cons pe_str (pa_cons (pe_op op_add (pv 4) pe_int) pa_nil))) (nomark _))))
        pss_nil)
      (pss_cons (ps_set (i := 13) sc_trial.nd rfl (Or.inl rfl) (pe_call (ok_draw T) (hr.mono (by decide)) (by rfl) T.g_draw T.F_draw.kp T.b_draw .nil pass0 (pa_cons (pv 0) (pa_cons (pv 4) pa_nil))))
      (pss_cons (ps_set (i := 14) sc_trial.nd rfl (Or.inl rfl) (pe_op op_cat (pe_op op_cat (pe_op op_rep (pe_lst (pa_cons (pe_op op_add (pe_ix ix_tup (pv 2) pe_int (fun _ _ => rfl)) pe_int) pa_nil)) (pv 13)) (pe_lst (pa_cons (pe_ix ix_tup (pe_tup (pa_cons pe_non (pa_cons pe_bl (pa_cons pe_str pa_nil)))) (pe_call (ok_draw T) (hr.mono (by decide)) (by rfl) T.g_draw T.F_draw.kp T.b_draw .nil pass0 (pa_cons (pv 0) (pa_cons pe_int pa_nil))) (fun _ _ => rfl)) pa_nil))) (pe_op op_rep (pe_lst (pa_cons pe_non pa_nil)) (pe_op op_sub (pe_op op_sub (pv 4) (pv 13)) pe_int))))
      (pss_one (ps_ret (pe_cmpR (op_eqD hr.units) (pe_call (ok_ltried T) (hr.mono (by decide)) (by rfl) T.g_ltried T.F_ltried.kp T.b_ltried .nil pass0 (pa_cons (pv 1) (pa_cons (pe_callTy call_tuple_of (by rfl) T.z_tuple (by decide +kernel) (pa_cons (pv 5) pa_nil)) (pa_cons (pe_callTy call_tuple_of (by rfl) T.z_tuple (by decide +kernel) (pa_cons (pe_op op_cat (pv 6) (pe_lst (pa_cons (pv 14) (pa_cons (pe_lst pa_nil) pa_nil)))) pa_nil)) pa_nil)))) (pe_tup (pa_cons pe_str (pa_cons (pv 13) pa_nil))) (nomark _))))))))))))))), ?_⟩
    obtain ⟨f, c, xs, hm, hf, dxs, hc⟩ := id pr.mod
    refine ⟨_, rfl, mm, _, _, _, rfl, rfl, SqL.of hm, atI_nat (j := 1) rfl, c, _, rfl, .inl (SqL.of hc), ?_⟩
    rw [nV_len, a8]
    refine ⟨_, rfl, _, rfl, u, _, _, _, rfl, rfl, hu, atI_nat (j := 0) rfl, _, rfl, b, n, 3, rfl, by decide, by decide, hbag, by omega, fun A1 d1 d10 d11 bag1 but1 => ?_⟩
    obtain ⟨k1, rfl⟩ : ∃ k : Nat, d1 = ((k : Nat) : Int) := ⟨d1.toNat, by omega⟩
    have k13 : k1 ≤ 2 := by omega
    refine ⟨b, n + 1, k1, h.l, rfl, by omega, hl, bag1, by omega, fun A2 q F zs nq lF dF hq dzs bag2 but2 => ?_⟩
    have but02 := but1.trans but2
    have bag2 := bag2.mono (m := n + 5) (by omega)
    refine ⟨_, rfl, b, n + 5, 5, rfl, by decide, by decide, bag2, by omega, fun A3 d2 d20 d21 bag3 but3 => ?_⟩
    obtain ⟨k2, rfl⟩ : ∃ k : Nat, d2 = ((k : Nat) : Int) := ⟨d2.toNat, by omega⟩
    have k24 : k2 ≤ 4 := by omega
    refine ⟨_, rfl, by omega, by omega, fun D hD => ?_⟩
    rw [Int.toNat_natCast]
    have but03 := but02.trans but3
    have qb : q ≠ b := hbag.off (bt_fresh (H := H) but1 bag1 nq)
    have hu3 := SqT.k hu (kt_bt hbag but03)
    have hq3 := but3.keep _ _ qb hq
    have dz3 := dzs.k (kt_bt bag2 but3)
    have pr3 := pr.bt hbag but03
    have kk : ∀ H', Bg H' b (n + 300) → Bt b A3 H' → Q (.bl true) H' := fun H' g e => kk H' g (but03.trans e)
    clear hm hf hc dxs hu pr hq dzs but02 but03
    have Db := bag3.off hD
    have sD := same_new (o := .lst []) hD
    refine lc_it (tt := tYes) walk_range (fun i B => ∃ ys rs, B D = some (.lst ys) ∧ rs.length = i ∧ Rws B (h.l.count true) ys rs ∧ Bg B b (n + 6 + 31 * i) ∧ Bt b A3 B) ⟨[], [], upd_same, rfl, .nil, bag3.keep sD, Bt.of sD⟩ (fun _ _ _ _ => trivial) (fun i x B B' hi hP hY => ?_) (fun B hP => ?_)
    · obtain ⟨ys, rs, hB, lr, rw1, bagB, btB⟩ := hP
      obtain ⟨rfl, rfl⟩ := hY
      refine ⟨rfl, yesT ?_⟩
      refine ⟨_, rfl, _, rfl, u, _, _, _, rfl, rfl, SqT.k hu3 (kt_bt bag3 btB), atI_nat (j := 1) rfl, _, rfl, b, n + 6 + 31 * i, h.m, h.l.count true, rfl, by omega, bagB, by omega, fun C r ms nr lms hr bagC btC => ?_⟩
      have hC := btC.keep _ _ Db hB
      have rD : r ≠ D := fun z => by rw [z, hB] at nr; cases nr
      have rb : r ≠ b := bagB.off nr
      have ly := rw1.len
      refine ⟨_, hC, small1000 (by omega), ys ++ [.ref r], rs ++ [ms], upd_same, by rw [List.length_append, lr]; rfl, ?_, ?_, ?_⟩
      · exact ((rw1.bt bagB btC).snoc lms hr).put hC (rw1.refs) (by omega)
      · exact (bag3.put hD (btB.trans btC) bagC).mono (by omega)
      · exact (btB.trans btC).put hD
    obtain ⟨ys, rs, hB, lr, rw1, bagB, btB⟩ := hP
    have ly := rw1.len
    have hu4 := SqT.k hu3 (kt_bt bag3 btB)
    have hq4 := btB.keep _ _ qb hq3
    have dz4 := dz3.k (kt_bt bag3 btB)
    have pr4 := pr3.bt bag3 btB
    have kk : ∀ H', Bg H' b (n + 300) → Bt b B H' → Q (.bl true) H' := fun H' g e => kk H' g (btB.trans e)
    clear pr3 hu3 hq3 dz3
    have fokF : FOk h.l.length F := ⟨by omega, dF⟩
    have fokMF : FOk h.l.length (M ++ F) := ⟨by rw [List.length_append]; omega, fun f m => (List.mem_append.mp m).elim (pr4.dom f) (dF f)⟩
    refine ⟨_, rfl, _, rfl, _, rfl, _, rfl, u, mm, q, D, h, M, F, st.cs, st.al, zs, ys, rs, rfl, hu4, ok, pr4.mod, hq4, dz4, fokMF, a8, hB, ly, by omega, fun i x ms hx hm => (let ⟨l1, a, e, ha⟩ := rw1.get i x ms hx hm; ⟨l1, a, e, SqL.of ha⟩), fun C1 t1 s1 ht1 => ?_⟩
    have ht1 := ht1.sq (K := K)
    refine ⟨_, rfl, _, rfl, q, _, rfl, .inl (SqL.of (s1 _ _ hq4)), fun L hL => ?_⟩
    generalize x1 : upd C1 L _ = C2
    obtain ⟨s2, e2⟩ := got x1 hL
    have s12 := s1.trans s2
    refine ⟨_, rfl, D, rfl, ⟨_, SqL.of (s12 _ _ hB)⟩, fun D2 hD2 => ?_⟩
    refine Lm.lc_any (walk_list (xs := ys)) (fun i y H' => ∃ ms a, rs[i]? = some ms ∧ y = V.ref a ∧ a ≠ D2 ∧ H' a = some (.lst (ms.map V.int))) (fun i y H1 H2 ws g _ bar => ?_) (fun i A x A' y => by obtain ⟨rfl, _⟩ := y; exact Same.refl _) hD2 (by omega) (fun A s => SqL.of ((s12.trans s) _ _ hB)) (fun i x G G' hi sm ex hY Q2 Z q2 => ?_) (fun G ws sm hws lw hR => ?_)
    · obtain ⟨ms, a, e, rfl, ne, ha⟩ := g
      exact ⟨ms, a, e, rfl, ne, bar _ _ ne ha⟩
    · obtain ⟨rfl, hx⟩ := hY
      obtain ⟨wsx, hDx⟩ := ex
      obtain ⟨ms, hms⟩ : ∃ ms, rs[i]? = some ms := ⟨rs[i]'(by omega), List.getElem?_eq_getElem (by omega)⟩
      obtain ⟨_, a, rfl, ha⟩ := rw1.get i x ms hx hms
      refine ⟨rfl, yesT ⟨_, rfl, a, _, rfl, .inl (SqL.of ((s12.trans sm) _ _ ha)), fun l hl2 => q2 _ _ (same_new hl2) ⟨ms, l, hms, rfl, (ne_of_none hDx hl2).symm, upd_same⟩⟩⟩
    have rw2 : Rws G (h.l.count true) ws rs := Rws.of (by omega) fun i x ms hx hm => by
      obtain ⟨ms', a, e, rfl, _, ha⟩ := hR i x hx
      rw [hm] at e
      cases e
      have hi : i < ys.length := by
        have := (List.getElem?_eq_some_iff.mp hm).1
        omega
      obtain ⟨l1, _⟩ := rw1.get i _ ms (List.getElem?_eq_getElem hi) hm
      exact ⟨l1, a, rfl, ha⟩
    have s14 := s12.trans sm
    refine ⟨p, L, D2, h, st, rfl, pr4.pan.ks s14, ok, .inr ⟨F, rs, none, ⟨false, zs, SqL.of (sm _ _ e2), dz4.k (Kt.same s14)⟩, fokF, rw2.good (t := false) (SqL.of hws) (by omega), fun C3 t2 s3 ht2 => ?_⟩⟩
    rw [run_puts pr4.nrm pr4.dom dF] at ht2
    have lb : (runP h ⟨M ++ F, st.cs, st.al⟩ rs).1.length ≤ 4 := by rw [run_len, lr]; omega
    generalize (runP h ⟨M ++ F, st.cs, st.al⟩ rs).1 = bs at *
    have s15 := s14.trans s3
    refine ⟨_, rfl, _, rfl, ?_⟩
    refine ne_like (.tup ht2 (bls_dps _)) (.tup (sameT ((s2.trans sm).trans s3) ht1) (bls_dps _)) (fine_bls (n := 0) _) (by decide) ⟨_, rfl, ?_⟩
    refine iteF ⟨_, rfl, t2, _, true, rfl, ht2, fun J GG wk hG => fun D3 hD3 => ?_⟩
    refine Lm.lc_any wk (fun i y _ => ((List.replicate bs.length true).map V.bl)[i]? = some y) (fun _ _ _ _ _ e _ _ => e) (fun i A x A' y => by obtain ⟨rfl, _⟩ := y; exact Same.refl _) hD3 (by rw [List.length_map]; omega) (fun A s => hG _ (sameT s ht2)) (fun i x A A' hi sm3 _ hY Q2 Z q2 => ?_) (fun G2 vs2 sm4 hvs lvs hR2 => ?_)
    · obtain ⟨rfl, hx⟩ := hY
      rw [List.length_map] at hi
      rw [List.getElem?_map, List.getElem?_eq_getElem hi] at hx
      obtain rfl : V.bl bs[i] = x := Option.some.inj hx
      have rr : ((List.replicate bs.length true).map V.bl)[i]? = some (.bl true) := by rw [List.getElem?_map, List.getElem?_replicate, if_pos hi]; rfl
      refine ⟨rfl, yesT ⟨_, rfl, _, _, rfl, rfl, _, rfl, ?_⟩⟩
      cases bs[i] with
      | true => exact iteT (q2 _ _ (Same.refl _) rr)
      | false => exact iteF ⟨_, rfl, _, _, rfl, rfl, q2 _ _ (Same.refl _) rr⟩
    have ev : vs2 = (List.replicate bs.length true).map V.bl := Lm.list_is (by rw [List.length_map, List.length_replicate]; rw [List.length_map] at lvs; exact lvs) fun i y e => hR2 i y e
    rw [ev] at hvs
    refine ⟨D3, _, rfl, SqL.of hvs, _, rfl, ?_⟩
    rw [show (List.replicate bs.length true).all id = true by simp]
    have s16 := s15.trans sm4
    have bag6 := bagB.keep s16
    refine iteF ⟨_, rfl, b, _, 3, rfl, by decide, by decide, bag6, by omega, fun A7 d7 e0 e1 bag7 but7 => ?_⟩
    have hu7 := SqT.k (sameT s16 hu4) (kt_bt bag6 but7)
    have hq7 := but7.keep _ _ qb (s16 _ _ hq4)
    have dz7 := (dz4.k (Kt.same s16)).k (kt_bt bag6 but7)
    have hB7 := but7.keep _ _ Db (s16 _ _ hB)
    have rw7 := (rw1.keep s16).bt bag6 but7
    have pn7 := (pr4.pan.ks s16).bt bag6 but7
    have kk : ∀ H', Bg H' b (n + 300) → Bt b A7 H' → Q (.bl true) H' := fun H' g e => kk H' g (((Bt.of s16).trans but7).trans e)
    clear hu4 hq4 dz4 hB rw1 pr4 rw2 hR hR2
    refine ⟨_, rfl, rfl, _, rfl, ite2 (fun c => ?_) (fun c => ?_)⟩
    · refine ⟨_, rfl, _, rfl, _, rfl, small_len (by show 2 ≤ 100000; decide), fun t3 h3 => ?_⟩
      generalize x3 : upd A7 t3 _ = B1
      obtain ⟨s3, e3⟩ := got x3 h3
      refine ⟨small_len (by show 2 ≤ 100000; decide), fun L3 h4 => ?_⟩
      generalize x4 : upd B1 L3 _ = B2
      obtain ⟨s4, e4⟩ := got x4 h4
      refine ⟨q, L3, _, _, rfl, rfl, (s3.trans s4) _ _ hq7, e4, small_len (by have := dz7.len; rw [List.length_map] at this; show _ + 2 ≤ 100000; omega), fun L4 h5 => ?_⟩
      generalize x5 : upd B2 L4 _ = B3
      obtain ⟨s5, e5⟩ := got x5 h5
      refine ⟨_, rfl, small_len (by show 0 ≤ 100000; decide), fun L5 h6 => ?_⟩
      generalize x6 : upd B3 L5 _ = B4
      obtain ⟨s6, e6⟩ := got x6 h6
      refine ⟨small_len (by show 1 ≤ 100000; decide), fun L6 h7 => ?_⟩
      generalize x7 : upd B4 L6 _ = B5
      obtain ⟨s7, e7⟩ := got x7 h7
      have s37 := (((s3.trans s4).trans s5).trans s6).trans s7
      refine ⟨D, L6, _, _, rfl, rfl, s37 _ _ hB7, e7, small_len (by show _ + 1 ≤ 100000; omega), fun L7 h8 => ?_⟩
      generalize x8 : upd B5 L7 _ = B6
      obtain ⟨s8, e8⟩ := got x8 h8
      have s38 := s37.trans s8
      refine ⟨p, L4, L7, h, st, rfl, pn7.ks s38, ok, .inl ⟨.ref t3, ⟨false, zs, [V.non], F, SqL.of (((s6.trans s7).trans s8) _ _ e5), dz7.k (Kt.same s38), fokF, .snd (SqT.of (((((s4.trans s5).trans s6).trans s7).trans s8) _ _ e3)) rfl (.int _) rfl⟩, fun C9 w9 s9 e9 => ?_⟩⟩
      refine ⟨_, rfl, small_len (by show 2 ≤ 100000; decide), fun t4 h9 => ?_⟩
      generalize x9 : upd C9 t4 _ = B7
      obtain ⟨s10, e10⟩ := got x9 h9
      refine ⟨small_len (by show 2 ≤ 100000; decide), fun t5 h10 => ?_⟩
      have s11 := same_new (o := .tup [.str "fault", .ref t4]) h10
      have s3e := (s38.trans s9).trans (s10.trans s11)
      have e3e := ((((((s4.trans s5).trans s6).trans s7).trans s8).trans s9).trans (s10.trans s11)) _ _ e3
      exact eq_like (d := .tuple [.str "fault", .tuple [.str "cut", .int (-1)]]) (n := 3) (.tup (SqT.of ((s10.trans s11) _ _ e9)) (.cons (.str _) (.cons (.tup (SqT.of e3e) (.cons (.str _) (.cons (.int _) .nil))) .nil))) (.tup (SqT.of upd_same) (.cons (.str _) (.cons (.tup (SqT.of (s11 _ _ e10)) (.cons (.str _) (.cons (.int _) .nil))) .nil))) (fine_pair "fault" (by decide +kernel) (fine_pair "cut" (by decide +kernel) (fine_int (n := 1) _))) (by decide) (kk _ ((bag7.keep s3e).mono (by omega)) (Bt.of s3e))
    have k1n : (((h.l.count true : Nat) : Int) + 1).toNat = h.l.count true + 1 := by omega
    have k1z : ((h.l.count true : Nat) : Int) + 1 = ((h.l.count true + 1 : Nat) : Int) := by omega
    refine ⟨_, rfl, rfl, _, rfl, ite2 (fun c => ?_) (fun c => ?_)⟩
    · refine ⟨_, rfl, _, rfl, _, rfl, _, rfl, u, _, _, _, rfl, rfl, hu7, atI_nat (j := 1) rfl, small_len (by show 1 ≤ 100000; decide), fun L3 h3 => ?_⟩
      generalize x3 : upd A7 L3 _ = B1
      obtain ⟨s3, e3⟩ := got x3 h3
      refine ⟨_, rfl, _, _, rfl, rfl, L3, _, _, rfl, rfl, e3, by omega, by omega, by rw [k1n]; exact small_len (by show 1 * _ ≤ 100000; omega), fun L4 h4 => ?_⟩
      rw [k1n, flat_rep]
      generalize x4 : upd B1 L4 _ = B2
      obtain ⟨s4, e4⟩ := got x4 h4
      refine ⟨small_len (by show 1 ≤ 100000; decide), fun L5 h5 => ?_⟩
      generalize x5 : upd B2 L5 _ = B3
      obtain ⟨s5, e5⟩ := got x5 h5
      have s35 := (s3.trans s4).trans s5
      refine ⟨D, L5, _, _, rfl, rfl, s35 _ _ hB7, e5, small_len (by show _ + 1 ≤ 100000; omega), fun L6 h6 => ?_⟩
      generalize x6 : upd B3 L6 _ = B4
      obtain ⟨s6, e6⟩ := got x6 h6
      have s36 := s35.trans s6
      have hb := LvIs.len (K := K) (H := B4) (q := L4) (n := h.l.count true) (t := false) (xs := List.replicate (h.l.count true + 1) (V.int h.m)) (SqL.of ((s5.trans s6) _ _ e4)) (by rw [List.length_replicate]; omega) (by rw [List.length_replicate]; omega)
      rw [List.length_replicate] at hb
      refine ⟨p, q, L6, h, st, rfl, pn7.ks s36, ok, .inr ⟨F, rs, some (.len (h.l.count true + 1)), ⟨false, zs, SqL.of (s36 _ _ hq7), dz7.k (Kt.same s36)⟩, fokF, (rw7.keep s36).bad (t := false) (SqL.of e6) (by rw [List.length_append]; show _ + 1 ≤ 100; omega) (fun ms z => by cases z) hb, fun C9 w9 s9 e9 => ?_⟩⟩
      refine ⟨_, rfl, _, _, rfl, rfl, small_len (by show 2 ≤ 100000; decide), fun t4 h9 => ?_⟩
      dsimp only
      rw [k1z]
      have s10 := same_new (o := .tup [.str "length", .int ((h.l.count true + 1 : Nat) : Int)]) h9
      have s3e := (s36.trans s9).trans s10
      exact eq_like (d := .tuple [.str "length", .int ((h.l.count true + 1 : Nat) : Int)]) (n := 2) (.tup (SqT.of (s10 _ _ e9)) (.cons (.str _) (.cons (.int _) .nil))) (.tup (SqT.of upd_same) (.cons (.str _) (.cons (.int _) .nil))) (fine_pair "length" (by decide +kernel) (fine_int (n := 1) _)) (by decide) (kk _ ((bag7.keep s3e).mono (by omega)) (Bt.of s3e))
    refine ⟨_, rfl, _, rfl, b, n + 131, ((h.l.count true : Nat) : Int), rfl, by omega, by omega, bag7.mono (by omega), by omega, fun A8 d8 f0 f1 bag8 but8 => ?_⟩
    obtain ⟨k8, rfl⟩ : ∃ k : Nat, d8 = ((k : Nat) : Int) := ⟨d8.toNat, by omega⟩
    have k8l : k8 < h.l.count true := by omega
    have hu8 := SqT.k hu7 (kt_bt bag7 but8)
    refine ⟨_, rfl, u, _, _, _, rfl, rfl, hu8, atI_nat (j := 1) rfl, _, _, rfl, rfl, small_len (by show 1 ≤ 100000; decide), fun L1 h1 => ?_⟩
    generalize x1 : upd A8 L1 _ = B1
    obtain ⟨s1', e1⟩ := got x1 h1
    refine ⟨_, rfl, L1, _, _, rfl, rfl, e1, by omega, by omega, by rw [Int.toNat_natCast]; exact small_len (by show 1 * _ ≤ 100000; omega), fun L2 h2 => ?_⟩
    rw [Int.toNat_natCast, flat_rep]
    generalize x2 : upd B1 L2 _ = B2
    obtain ⟨s2', e2'⟩ := got x2 h2
    refine ⟨small_len (by show 3 ≤ 100000; decide), fun t3 h3 => ?_⟩
    generalize x3 : upd B2 t3 _ = B3
    obtain ⟨s3', e3⟩ := got x3 h3
    have s13' := (s1'.trans s2').trans s3'
    have bagB3 := bag8.keep s13'
    have L2b : L2 ≠ b := (bag8.keep s1').off h2
    have t3b : t3 ≠ b := (bag8.keep (s1'.trans s2')).off h3
    refine ⟨_, rfl, b, _, 3, rfl, by decide, by decide, bagB3, by omega, fun A9 d9 g0 g1 bag9 but9 => ?_⟩
    obtain ⟨v, hv, tv⟩ : ∃ v : V, atI [V.non, V.bl true, V.str "1"] d9 = some v ∧ ∀ H', Thing K H' v none := by
      have : d9 = 0 ∨ d9 = 1 ∨ d9 = 2 := by omega
      rcases this with rfl | rfl | rfl
      · exact ⟨.non, rfl, fun _ => .non⟩
      · exact ⟨.bl true, rfl, fun _ => .bl true⟩
      · exact ⟨.str "1", rfl, fun _ => .str "1"⟩
    have but79 : Bt b A7 A9 := (but8.trans (Bt.of s13')).trans but9
    have eL2 := but9.keep _ _ L2b (s3' _ _ e2')
    refine ⟨t3, _, d9, _, rfl, rfl, SqT.of (but9.keep _ _ t3b e3), hv, small_len (by show 1 ≤ 100000; decide), fun L3 h4 => ?_⟩
    generalize x4 : upd A9 L3 _ = C1'
    obtain ⟨s4, e4⟩ := got x4 h4
    refine ⟨L2, L3, _, _, rfl, rfl, s4 _ _ eL2, e4, small_len (by rw [List.length_replicate]; show _ + 1 ≤ 100000; omega), fun L4 h5 => ?_⟩
    generalize x5 : upd C1' L4 _ = C2'
    obtain ⟨s5, e5⟩ := got x5 h5
    refine ⟨small_len (by show 1 ≤ 100000; decide), fun L5 h6 => ?_⟩
    generalize x6 : upd C2' L5 _ = C3'
    obtain ⟨s6, e6⟩ := got x6 h6
    have kr : (((h.l.count true : Nat) : Int) - ((k8 : Nat) : Int) - 1).toNat = h.l.count true - k8 - 1 := by omega
    refine ⟨_, rfl, _, rfl, _, _, rfl, rfl, _, _, rfl, rfl, L5, _, _, rfl, rfl, e6, by omega, by omega, by rw [kr]; exact small_len (by show 1 * _ ≤ 100000; omega), fun L6 h7 => ?_⟩
    rw [kr, flat_rep]
    generalize x7 : upd C3' L6 _ = C4'
    obtain ⟨s7, e7⟩ := got x7 h7
    refine ⟨L4, L6, _, _, rfl, rfl, (s6.trans s7) _ _ e5, e7, small_len (by rw [List.length_replicate, List.length_append, List.length_replicate]; show _ + 1 + _ ≤ 100000; omega), fun L7 h8 => ?_⟩
    generalize x8 : upd C4' L7 _ = C5'
    obtain ⟨s8, e8⟩ := got x8 h8
    have s48 := (((s4.trans s5).trans s6).trans s7).trans s8
    have hq9 := but79.keep _ _ qb hq7
    have hB9 := but79.keep _ _ Db hB7
    have dz9 := dz7.k (kt_bt bag7 but79)
    have rw9 := rw7.bt bag7 but79
    have pn9 := pn7.bt bag7 but79
    refine ⟨_, rfl, _, rfl, q, _, rfl, .inl ⟨SqL.of (s48 _ _ hq9), fun t4 h9 => ?_⟩⟩
    generalize x9 : upd C5' t4 _ = C6'
    obtain ⟨s9, e9⟩ := got x9 h9
    refine ⟨_, rfl, _, rfl, small_len (by show 0 ≤ 100000; decide), fun L8 h10 => ?_⟩
    generalize x10 : upd C6' L8 _ = C7'
    obtain ⟨s10, e10⟩ := got x10 h10
    refine ⟨small_len (by show 2 ≤ 100000; decide), fun L9 h11 => ?_⟩
    generalize x11 : upd C7' L9 _ = C8'
    obtain ⟨s11, e11⟩ := got x11 h11
    have s4b := ((s48.trans s9).trans s10).trans s11
    refine ⟨D, L9, _, _, rfl, rfl, s4b _ _ hB9, e11, small_len (by show _ + 2 ≤ 100000; omega), fun L10 h12 => ?_⟩
    generalize x12 : upd C8' L10 _ = C9'
    obtain ⟨s12', e12⟩ := got x12 h12
    refine ⟨L10, _, rfl, .inl ⟨SqL.of e12, fun t5 h13 => ?_⟩⟩
    generalize x13 : upd C9' t5 _ = C10
    obtain ⟨s13, e13⟩ := got x13 h13
    have s9d := (((s9.trans s10).trans s11).trans s12').trans s13
    have s4d := s48.trans s9d
    have eq : List.replicate k8 (V.int (h.m + 1)) ++ [v] ++ List.replicate (h.l.count true - k8 - 1) V.non = (List.replicate k8 (h.m + 1)).map V.int ++ v :: List.replicate (h.l.count true - k8 - 1) V.non := by rw [List.map_replicate, List.append_assoc]; rfl
    dsimp only at e8
    rw [eq] at e8
    have hb := LvIs.level (K := K) (H := C10) (q := L7) (n := h.l.count true) (t := false) (ms := List.replicate k8 (h.m + 1)) (x := v) (rest := List.replicate (h.l.count true - k8 - 1) V.non) (SqL.of (s9d _ _ e8)) (by rw [List.length_append, List.length_map, List.length_replicate, List.length_cons, List.length_replicate]; omega) (tv _)
    rw [List.length_replicate] at hb
    refine ⟨p, t4, t5, h, st, rfl, pn9.ks s4d, ok, .inr ⟨F, rs, some (.level k8), ⟨true, zs, SqT.of (((((s10.trans s11).trans s12').trans s13)) _ _ e9), dz9.k (Kt.same s4d)⟩, fokF, (rw9.keep s4d).bad (t := true) (SqT.of e13) (by rw [List.length_append]; show _ + 2 ≤ 100; omega) (fun ms z => by cases z) hb, fun E1 w9 s14' e14 => ?_⟩⟩
    refine ⟨_, rfl, small_len (by show 2 ≤ 100000; decide), fun t6 h15 => ?_⟩
    have s15' := same_new (o := .tup [.str "level", .int ((k8 : Nat) : Int)]) h15
    have s4f := (s4d.trans s14').trans s15'
    exact eq_like (d := .tuple [.str "level", .int ((k8 : Nat) : Int)]) (n := 2) (.tup (SqT.of (s15' _ _ e14)) (.cons (.str _) (.cons (.int _) .nil))) (.tup (SqT.of upd_same) (.cons (.str _) (.cons (.int _) .nil))) (fine_pair "level" (by decide +kernel) (fine_int (n := 1) _)) (by decide) (kk _ ((bag9.keep s4f).mono (by omega)) (but79.trans (Bt.of s4f)))
end
end K52

namespace K52
open PySem L2 Wm TL Dv Rm Lo
section
variable {P : Program} {w : World} {K : PySem.W.Frag} {mg : Str → Option Value} {base : Heap}
/-! ### what a deed leaves as it is -/
def Fr (b p mm : Addr) (H H' : Hp) : Prop := ∀ q o, q ≠ b → q ≠ p → q ≠ mm → H q = some o → H' q = some o
theorem Fr.trans {b p mm : Addr} {H H1 H2 : Hp} (x : Fr b p mm H H1) (y : Fr b p mm H1 H2) : Fr b p mm H H2 := fun q o n1 n2 n3 e => y q o n1 n2 n3 (x q o n1 n2 n3 e)
theorem Fr.bt {b p mm : Addr} {H H' : Hp} (x : Bt b H H') : Fr b p mm H H' := fun q o n _ _ e => x.keep q o n e
theorem Fr.same {b p mm : Addr} {H H' : Hp} (x : Same H H') : Fr b p mm H H' := fun q o _ _ _ e => x q o e
theorem Fr.off {b p mm : Addr} {H H' : Hp} (x : Off p H H') : Fr b p mm H H' := fun q o _ n _ e => x q o n e
theorem Fr.set {b p mm : Addr} {H : Hp} {o : HO} : Fr b p mm H (upd H mm o) := fun q o _ _ n e => by rw [upd_ne n]; exact e
theorem Bg.offp {H H' : Hp} {b p C dx : Addr} {n : Nat} {fs : List (Str × V)} (bag : Bg H b n) (hp : H p = some (.ins C dx fs)) (o : Off p H H') : Bg H' b n := by
  obtain ⟨c, k, x, y, z, ns, hb, hc, r⟩ := bag
  exact ⟨c, k, x, y, z, ns, o _ _ (fun e => by rw [e, hp] at hb; cases hb) hb, o _ _ (fun e => by rw [e, hp] at hc; cases hc) hc, r⟩
theorem Bg.mset {H : Hp} {b mm f c : Addr} {n : Nat} {al : Bool} {o : HO} (bag : Bg H b n) (hm : H mm = some (.lst [.ref f, .ref c, .bl al])) : Bg (upd H mm o) b n := by
  obtain ⟨c0, k, x, y, z, ns, hb, hc, r⟩ := bag
  refine ⟨c0, k, x, y, z, ns, ?_, ?_, r⟩
  · rw [upd_ne fun e => by rw [e, hm] at hb; cases hb]
    exact hb
  · rw [upd_ne fun e => by rw [e, hm] at hc; cases ns <;> cases hc]
    exact hc
theorem nV_ne {H : Hp} {mm f c d : Addr} {al : Bool} {cs : List Nat} (hm : H mm = some (.lst [.ref f, .ref c, .bl al])) (hd : H d = some (.lst (nV cs))) : d ≠ mm := fun e => by
  rw [e, hm] at hd
  cases cs <;> cases hd
theorem Pair.mset {C HC PC : Addr} {A : Hp} {p mm f c f0 c0 : Addr} {al0 : Bool} {h : Hs} {s : Ps} {M : List Ft} {xs : List V} (pan : PanelAt K C HC PC A p h s) (hm : A mm = some (.lst [.ref f0, .ref c0, .bl al0])) (hf : A f = some (.lst xs)) (fne : f ≠ mm) (d : Dts K A xs (M.map ftD))
    (hc : A c = some (.lst (nV s.cs))) (nrm : s.fs = norm h.l M) (nd : M.Nodup) (dom : ∀ f ∈ M, f.2 ≤ h.l.length) : Pair K C HC PC (upd A mm (.lst [.ref f, .ref c, .bl s.al])) p mm h s M :=
  ⟨pan.lset hm, ⟨f, c, xs, upd_same, by rw [upd_ne fne]; exact hf, d.k (Kt.lst hm), by rw [upd_ne (nV_ne hm hc)]; exact hc⟩, nrm, nd, dom⟩
def putM (M : List Ft) (f : Ft) : List Ft := if f ∈ M then M else M ++ [f]
theorem putM_mem {M : List Ft} {f g : Ft} : g ∈ putM M f ↔ g ∈ M ∨ g = f := by
  unfold putM
  split
  · rename_i c
    exact ⟨.inl, fun z => z.elim id fun e => e ▸ c⟩
  · rw [List.mem_append, List.mem_singleton]
theorem putM_nd {M : List Ft} {f : Ft} (nd : M.Nodup) : (putM M f).Nodup := by
  unfold putM
  split
  · exact nd
  · rename_i c
    exact List.nodup_append.mpr ⟨nd, by simp, fun a ha b hb e => c (by rw [List.mem_singleton.mp hb] at e; rw [← e]; exact ha)⟩
theorem ModelAt.off {H H' : Hp} {p mm C dx : Addr} {fs : List (Str × V)} {M : List Ft} {cs : List Nat} {al : Bool} (x : ModelAt K H mm M cs al) (hp : H p = some (.ins C dx fs)) (o : Off p H H') : ModelAt K H' mm M cs al := by
  obtain ⟨f, c, xs, hm, hf, d, hc⟩ := x
  have np : ∀ {a : Addr} {ws : List V}, H a = some (.lst ws) → a ≠ p := fun e z => by rw [z, hp] at e; cases e
  exact ⟨f, c, xs, o _ _ (np hm) hm, o _ _ (np hf) hf, d.k (Kt.off hp o), o _ _ (np hc) hc⟩
theorem fts_ne {H : Hp} {mm f c d : Addr} {al : Bool} {xs : List V} {M : List Ft} (hm : H mm = some (.lst [.ref f, .ref c, .bl al])) (hd : H d = some (.lst xs)) (dxs : Dts K H xs (M.map ftD)) : d ≠ mm := fun z => by
  rw [z, hm] at hd
  cases hd
  cases M with
  | nil => cases dxs
  | cons a r =>
    cases dxs with
    | cons _ r2 =>
      cases r with
      | nil => cases r2
      | cons b2 r3 =>
        cases r2 with
        | cons _ r4 =>
          cases r3 with
          | nil => cases r4
          | cons b3 r5 =>
            cases r4 with
            | cons z _ => cases z
theorem panel_zero {C HC PC : Addr} {H H' : Hp} {p w C' dx : Addr} {fs0 : List (Str × V)} {h : Hs} {s : Ps} {g : Str → Option V} {u v : Addr} (hp : H p = some (.ins C' dx fs0)) (o : Off p H H') (r : PRaw K C HC PC H' p h (setG (setG g "counts" (.ref w)) "alarmed" (.bl false))) (a1 : g "faults" = some (.ref u)) (a2 : g "heard" = some (.ref v))
    (a5 : Dt K H (.ref u) (.tuple (s.fs.map ftD))) (a6 : SqT K H v (nV (heardL h.l (opn h.l s.fs)))) (a9 : norm h.l s.fs = s.fs) (hw : SqT K H' w (nV (List.replicate (h.l.count true) 0))) : PanelAt K C HC PC H' p h ⟨s.fs, List.replicate (h.l.count true) 0, false⟩ := by
  have k : Kt K H H' := Kt.off hp o
  refine ⟨_, u, v, w, r, ?_, ?_, ?_, ?_, a5.k k, SqT.k a6 k, hw, List.length_replicate, a9⟩
  · unfold setG; rw [if_neg (by decide +kernel), if_neg (by decide +kernel)]; exact a1
  · unfold setG; rw [if_neg (by decide +kernel), if_neg (by decide +kernel)]; exact a2
  · unfold setG; rw [if_neg (by decide +kernel), if_pos rfl]
  · unfold setG; rw [if_pos rfl]
theorem and_fall {c : Bool} {X Z : Prop} (hz : Z) (h : c = true → Z → X) : if c = true then X else Z := by
  cases e : c with
  | true => rw [if_pos rfl]; exact h e hz
  | false => rw [if_neg (by decide)]; exact hz
end
end K52

namespace K52
open PySem L2 Wm TL Dv Rm Lo
section
variable {P : Program} {w : World} {K : PySem.W.Frag} {mg : Str → Option Value} {base : Heap}
theorem ok_deed (T : Txt K mg) : FnOk P w K mg base CX0 13 T.a_deed T.d_deed ["_law_state", "_law_panel", "_law_plan", "_law_model"] (sp_deed K T.C T.HC T.PC) := by
  refine T.F_deed.ok sc_deed (fun vs H Q E h => ?_) (fun cdv A outer s H vs Q E hr h => ?_)
  · obtain ⟨b, p, u, mm, n, h, s, M, rfl, _⟩ := h
    rfl
  · obtain ⟨b, p, u, mm, n, h, st, M, rfl, hbag, hn, hu, ok, pr, kk⟩ := h
    have hl := ok.ri.len
    have cl : h.l.count true ≤ h.l.length := List.count_le_length
    have n1 := ok.n1
    have nl := ok.nl
    have lM : M.length ≤ 22 := by
      have := nodup_len M pr.nd pr.dom
      omega
    refine ⟨_, (pss_cons (ps_set (i := 4) sc_deed.nd rfl (Or.inl rfl) (pe_call (ok_draw T) (hr.mono (by decide)) (by rfl) T.g_draw T.F_draw.kp T.b_draw .nil pass0 (pa_cons (pv 0) (pa_cons pe_int pa_nil))))
      (pss_cons (ps_if (PW.pt (pw_or (pt_cmpR op_lt (pv 4) pe_int (nomark _)) (pw_or1 (pt_cmpR op_eq (pv 4) pe_int (nomark _)))))
        (pss_cons (ps_set (i := 5) sc_deed.nd rfl (Or.inr rfl) (pe_ix ix_list (pe_call (ok_faults T) (hr.mono (by decide)) (by rfl) T.g_faults T.F_faults.kp T.b_faults .nil pass0 (pa_cons (pv 0) (pa_cons (pe_ix ix_tup (pv 2) pe_int (fun _ _ => rfl)) (pa_cons pe_int pa_nil)))) pe_int (fun _ _ => rfl)))
        (C8.pss_cut (ps_if (pt_cmpR op_lt (pv 4) pe_int (nomark _))
          (pss_cons (ps_if (pt_cmpR op_notN (pe_meth (pv 1) T.clPC T.m_put_fault (ok_put_fault T) (hr.mono (by decide)) T.b_put_fault .nil Mk1.passF (pa_cons (pv 5) pa_nil)) pe_non (nomark _))
            (pss_one (ps_ret pe_bl))
            pss_nil)
          (pss_one (ps_asg (pe_op op_cat (pe_ix ix_list (pv 3) pe_int (fun _ _ => rfl)) (pe_ifExp (pt_cmpR (show OpR _ _ (Ind.rInS K) from Ind.op_inS (Ind.room65 hr)) (pv 5) (pe_ix ix_list (pv 3) pe_int (fun _ _ => rfl)) rfl) (pe_lst pa_nil) (pe_lst (pa_cons (pv 5) pa_nil)))) (pg_sub (pv 3) pe_int set_list))))
          (pss_one (ps_if (pt_cmpR (op_neD hr.units) (pe_call (ok_mended T) (hr.mono (by decide)) (by rfl) T.g_mended T.F_mended.kp T.b_mended .nil pass0 (pa_cons (pv 1) (pa_cons (pv 5) pa_nil))) (pe_ifExp (pt_cmpR (show OpR _ _ (Ind.rInS K) from Ind.op_inS (Ind.room65 hr)) (pv 5) (pe_ix ix_list (pv 3) pe_int (fun _ _ => rfl)) rfl) pe_str (pv 5)) (nomark _))
            (pss_one (ps_ret pe_bl))
            (pss_one (ps_asg (pe_lc (own := [("_law_other", 6)]) (g := gName 6) rfl sc_deed.nd (pi_list (pe_ix ix_list (pv 3) pe_int (fun _ _ => rfl))) (blkOk_by (own := [("_law_other", 6)]) (N := nm_deed) (sc := (defScope s_deed)) (by decide +kernel)) (fun _ _ _ _ _ => pg_name (i := 6) sc_deed.nd rfl (Or.inl rfl)) (fun _ _ _ _ _ => (pts_one (pt_cmpR (show OpR _ _ (rNeD K) from op_neD hr.units) (pv 6) (pv 5) (nomark _)))) (fun _ _ _ _ _ => (pv 6))) (pg_sub (pv 3) pe_int set_list))))))
        (pss_one (ps_ret pe_bl))))
        pss_nil)
      (pss_cons (ps_if (pt_cmpR op_eq (pv 4) pe_int (nomark _))
        (pss_cons (ps_asg (pe_op op_rep (pe_lst (pa_cons pe_int pa_nil)) (pe_callB call_len_seq (by rfl) T.z_len PySem.boot_len (pa_cons (pe_ix ix_list (pv 3) pe_int (fun _ _ => rfl)) pa_nil))) (pg_sub (pv 3) pe_int set_list))
        (pss_cons (ps_asg pe_bl (pg_sub (pv 3) pe_int set_list))
        (pss_one (ps_ret (pe_cmpR op_isN (pe_meth0 (pv 1) T.clPC T.m_reset (ok_reset T) (hr.mono (by decide)) T.b_reset .nil pass0) pe_non (nomark _))))))
        pss_nil)
      (pss_cons (ps_if (pt_cmpR op_eq (pv 4) pe_int (nomark _))
        (pss_one (ps_ret (pe_call (ok_trial T) (hr.mono (by decide)) (by rfl) T.g_trial T.F_trial.kp T.b_trial .nil pass0 (pa_cons (pv 0) (pa_cons (pv 1) (pa_cons (pv 2) (pa_cons (pv 3) pa_nil)))))))
        pss_nil)
      (pss_cons (ps_if (pt_cmpR op_eq (pv 4) pe_int (nomark _))
        (pss_one (ps_ret (pe_call (ok_wrong T) (hr.mono (by decide)) (by rfl) T.g_wrong T.F_wrong.kp T.b_wrong .nil pass0 (pa_cons (pv 0) (pa_cons (pv 1) (pa_cons (pv 2) (pa_cons (pv 3) pa_nil)))))))
        pss_nil)
      (pss_cons (ps_if (PW.pt (pw_and (pt_cmpR op_eq (pv 4) pe_int (nomark _)) (pw_and1 (pt_cmpR op_gt (pe_callB call_len_seq (by rfl) T.z_len PySem.boot_len (pa_cons (pe_ix ix_list (pv 3) pe_int (fun _ _ => rfl)) pa_nil)) pe_int (nomark _)))))
        (pss_cons (ps_set (i := 5) sc_deed.nd rfl (Or.inr rfl) (pe_ix ix_list (pe_ix ix_list (pv 3) pe_int (fun _ _ => rfl)) (pe_call (ok_draw T) (hr.mono (by decide)) (by rfl) T.g_draw T.F_draw.kp T.b_draw .nil pass0 (pa_cons (pv 0) (pa_cons (pe_callB call_len_seq (by rfl) T.z_len PySem.boot_len (pa_cons (pe_ix ix_list (pv 3) pe_int (fun _ _ => rfl)) pa_nil)) pa_nil))) (fun _ _ => rfl)))
        (pss_cons (ps_asg (pe_lc (own := [("_law_other", 6)]) (g := gName 6) rfl sc_deed.nd (pi_list (pe_ix ix_list (pv 3) pe_int (fun _ _ => rfl))) (blkOk_by (own := [("_law_other", 6)]) (N := nm_deed) (sc := (defScope s_deed)) (by decide +kernel)) (fun _ _ _ _ _ => pg_name (i := 6) sc_deed.nd rfl (Or.inl rfl)) (fun _ _ _ _ _ => (pts_one (pt_cmpR (show OpR _ _ (rNeD K) from op_neD hr.units) (pv 6) (pv 5) (nomark _)))) (fun _ _ _ _ _ => (pv 6))) (pg_sub (pv 3) pe_int set_list))
        (pss_one (ps_ret (pe_cmpR op_eq (pe_call (ok_mended T) (hr.mono (by decide)) (by rfl) T.g_mended T.F_mended.kp T.b_mended .nil pass0 (pa_cons (pv 1) (pa_cons (pv 5) pa_nil))) pe_str (nomark _))))))
        pss_nil)
      (pss_cons (ps_set (i := 7) sc_deed.nd rfl (Or.inl rfl) (pe_call (ok_levels T) (hr.mono (by decide)) (by rfl) T.g_levels T.F_levels.kp T.b_levels .nil pass0 (pa_cons (pv 0) (pa_cons (pe_ix ix_tup (pv 2) pe_int (fun _ _ => rfl)) (pa_cons (pe_callB call_len_seq (by rfl) T.z_len PySem.boot_len (pa_cons (pe_ix ix_list (pv 3) pe_int (fun _ _ => rfl)) pa_nil)) pa_nil)))))
      (pss_cons (ps_asg (pe_call (ok_step T) (hr.mono (by decide)) (by rfl) T.g_step T.F_step.kp T.b_step .nil pass0 (pa_cons (pv 2) (pa_cons (pe_ix ix_list (pv 3) pe_int (fun _ _ => rfl)) (pa_cons (pe_ix ix_list (pv 3) pe_int (fun _ _ => rfl)) (pa_cons (pe_ix ix_list (pv 3) pe_int (fun _ _ => rfl)) (pa_cons (pv 7) pa_nil)))))) (pg_tup rfl (pgs_cons (pg_name (i := 8) sc_deed.nd rfl (Or.inl rfl)) (pgs_cons (pg_name (i := 9) sc_deed.nd rfl (Or.inl rfl)) (pgs_cons (pg_name (i := 10) sc_deed.nd rfl (Or.inl rfl)) pgs_nil)))))
      (pss_cons (ps_asg (pv 9) (pg_sub (pv 3) pe_int set_list))
      (pss_cons (ps_asg (pv 10) (pg_sub (pv 3) pe_int set_list))
      (pss_cons (ps_set (i := 11) sc_deed.nd rfl (Or.inl rfl) (pe_meth (pv 1) T.clPC T.m_beat (ok_beat T) (hr.mono (by decide)) T.b_beat .nil Mk1.passF (pa_cons (pe_callTy call_tuple_of (by rfl) T.z_tuple (by decide +kernel) (pa_cons (pv 7) pa_nil)) pa_nil)))
      (pss_one (ps_ret (pe_ifExp (pt_val (pv 8)) (pe_cmpR op_isBl (pv 11) pe_bl (nomark _)) (pe_cmpR op_isBl (pv 11) pe_bl (nomark _)))))))))))))))), ?_⟩
    refine ⟨_, rfl, b, n, 12, rfl, by decide, by decide, hbag, by omega, fun A1 d e0 e1 bag1 but1 => ?_⟩
    have hu1 := SqT.k hu (kt_bt hbag but1)
    have pr1 := pr.bt hbag but1
    have kk : ∀ H' s' M', Bg H' b (n + 400) → Fr b p mm A1 H' → Pair K T.C T.HC T.PC H' p mm h s' M' → Q (.bl true) H' := fun H' s' M' g e pp => kk H' s' M' g ((Fr.bt but1).trans e) pp
    clear hu pr hbag
    have a8 : st.cs.length = h.l.count true := by
      obtain ⟨g, u, v, w, r, a1, a2, a3, a4, a5, a6, a7, a8, a9⟩ := pr1.pan
      exact a8
    have lk1 : ∀ {B : Hp}, Pair K T.C T.HC T.PC B p mm h st M → ∃ (g : Str → Option V) (dx : Addr) (fs : List (Str × V)), B p = some (.ins T.PC dx fs) ∧ KeysOk fs ∧ (∀ m : Str, fs.lookup m = g m) ∧ (∀ m : Str, m ∉ panelF → g m = none) := fun pp => by
      obtain ⟨g, u, v, w, ⟨dx, fs, hh, hp, lf, lk, gh, hA, no⟩, _⟩ := pp.pan
      exact ⟨g, dx, fs, hp, lf, lk, no⟩
    refine ⟨_, rfl, _, _, rfl, rfl, _, rfl, ite2 (fun c1 => ?_) (fun c1 => ?_)⟩
    · refine ⟨_, rfl, _, rfl, u, _, _, _, rfl, rfl, hu1, atI_nat (j := 0) rfl, b, n + 1, 1, h.l, rfl, by omega, hl, bag1, by omega, fun A2 q F zs nq lF dF hq dzs bag2 but2 => ?_⟩
      obtain ⟨f0, rfl⟩ : ∃ f0, F = [f0] := by
        cases F with
        | nil => cases lF
        | cons a r =>
          cases r with
          | nil => exact ⟨a, rfl⟩
          | cons _ _ => cases lF
      obtain ⟨x, rfl, dx0⟩ : ∃ x, zs = [x] ∧ Dt K A2 x (ftD f0) := by
        cases dzs with
        | cons a r =>
          cases r
          exact ⟨_, rfl, a⟩
      have pr2 := pr1.bt bag1 but2
      have df0 := dF f0 List.mem_cons_self
      obtain ⟨g, dx, fs, hp, lf, lk, no⟩ := lk1 pr2
      obtain ⟨f, c, xs, hm, hf, dxs, hc⟩ := id pr2.mod
      refine ⟨q, _, _, _, rfl, rfl, SqL.of hq, atI_nat (j := 0) rfl, ?_⟩
      refine ⟨fun σ B => ∃ s' M' v6 v7 v8 v9 v10 v11, σ = [some (.ref b), some (.ref p), some (.ref u), some (.ref mm), some (.int d), some x, v6, v7, v8, v9, v10, v11] ∧ Bg B b (n + 400) ∧ Fr b p mm A1 B ∧ Pair K T.C T.HC T.PC B p mm h s' M', ?_, ?_⟩
      · refine ⟨_, rfl, _, _, rfl, rfl, _, rfl, iteY c1 ?_⟩
        refine ⟨_, rfl, p, dx, fs, rfl, hp, pn_meth "put_fault" lk no (by decide +kernel), _, rfl, p, x, h, st, rfl, pr2.pan, ok, .inl ⟨f0, dx0, df0, fun A3 off3 pan3 => ?_⟩⟩
        refine ⟨rfl, _, rfl, iteF ?_⟩
        have np : ∀ {a : Addr} {ws : List V}, A2 a = some (.lst ws) → a ≠ p := fun e z => by rw [z, hp] at e; cases e
        have hm3 := off3 _ _ (np hm) hm
        have hf3 := off3 _ _ (np hf) hf
        have hc3 := off3 _ _ (np hc) hc
        have kt3 : Kt K A2 A3 := Kt.off hp off3
        have dx3 := dxs.k kt3
        have dx03 := dx0.k kt3
        have bag3 := Bg.offp bag2 hp off3
        have fr3 : Fr b p mm A1 A3 := (Fr.bt but2).trans (Fr.off off3)
        have fne : f ≠ mm := fun z => by
          rw [z, hm] at hf
          cases hf
          have := dxs.len
          cases M with
          | nil => cases dxs
          | cons a r =>
            cases dxs with
            | cons _ r2 =>
              cases r with
              | nil => cases r2
              | cons b2 r3 =>
                cases r2 with
                | cons _ r4 =>
                  cases r3 with
                  | nil => cases r4
                  | cons b3 r5 =>
                    cases r4 with
                    | cons z _ => cases z
        have lx := dxs.len
        rw [List.length_map] at lx
        have nrm' : norm h.l (st.fs ++ [f0]) = norm h.l (putM M f0) := norm_congr fun g => by
          rw [List.mem_append, List.mem_singleton, putM_mem, pr2.nrm, norm_mem]
          exact ⟨fun z => z.imp (fun y => y.2) id, fun z => z.imp (fun y => ⟨pr2.dom g y, y⟩) id⟩
        have dom' : ∀ g ∈ putM M f0, g.2 ≤ h.l.length := fun g m => (putM_mem.mp m).elim (pr2.dom g) fun e => e ▸ df0
        refine ⟨_, rfl, mm, _, _, _, rfl, rfl, SqL.of hm3, atI_nat (j := 0) rfl, ?_⟩
        refine ⟨_, rfl, _, rfl, mm, _, _, _, rfl, rfl, SqL.of hm3, atI_nat (j := 0) rfl, ftD f0, M.map ftD, false, dx03.toDp, .lst (SqL.of hf3) dx3.dp, (fine_ft f0 (n := 0)).1, Nat.le_trans (fine_ft f0 (n := 0)).2 (by decide), lay_fts _, ?_⟩
        rw [any_ft]
        refine ⟨_, rfl, ?_⟩
        by_cases c : f0 ∈ M
        · rw [decide_eq_true c]
          have em : putM M f0 = M := if_pos c
          refine iteT ⟨small_len (by show 0 ≤ 100000; decide), fun L hL => ?_⟩
          generalize x4 : upd A3 L _ = A4
          obtain ⟨s4, e4⟩ := got x4 hL
          refine ⟨f, L, _, _, rfl, rfl, s4 _ _ hf3, e4, small_len (by show _ + 0 ≤ 100000; omega), fun L2 hL2 => ?_⟩
          generalize x5 : upd A4 L2 _ = A5
          obtain ⟨s5, e5⟩ := got x5 hL2
          rw [List.append_nil] at e5
          have s45 := s4.trans s5
          refine ⟨_, rfl, mm, _, 0, 0, rfl, rfl, s45 _ _ hm3, rfl, ?_⟩
          exact ⟨_, putM M f0, _, _, _, _, _, _, rfl, ((Bg.mset (bag3.keep s45) (s45 _ _ hm3)).mono (by omega)), (fr3.trans (Fr.same s45)).trans Fr.set,
            Pair.mset (s := ⟨norm h.l (st.fs ++ [f0]), st.cs, st.al⟩) (pan3.ks s45) (s45 _ _ hm3) e5 (ne_of_none (s4 _ _ hm3) hL2).symm (by rw [em]; exact dx3.k (Kt.same s45)) (s45 _ _ hc3) nrm' (putM_nd pr2.nd) dom'⟩
        · rw [decide_eq_false c]
          have em : putM M f0 = M ++ [f0] := if_neg c
          refine iteF ⟨_, rfl, small_len (by show 1 ≤ 100000; decide), fun L hL => ?_⟩
          generalize x4 : upd A3 L _ = A4
          obtain ⟨s4, e4⟩ := got x4 hL
          refine ⟨f, L, _, _, rfl, rfl, s4 _ _ hf3, e4, small_len (by show _ + 1 ≤ 100000; omega), fun L2 hL2 => ?_⟩
          generalize x5 : upd A4 L2 _ = A5
          obtain ⟨s5, e5⟩ := got x5 hL2
          have s45 := s4.trans s5
          refine ⟨_, rfl, mm, _, 0, 0, rfl, rfl, s45 _ _ hm3, rfl, ?_⟩
          exact ⟨_, putM M f0, _, _, _, _, _, _, rfl, ((Bg.mset (bag3.keep s45) (s45 _ _ hm3)).mono (by omega)), (fr3.trans (Fr.same s45)).trans Fr.set,
            Pair.mset (s := ⟨norm h.l (st.fs ++ [f0]), st.cs, st.al⟩) (pan3.ks s45) (s45 _ _ hm3) e5 (ne_of_none (s4 _ _ hm3) hL2).symm (by rw [em, List.map_append]; exact (dx3.app (.cons dx03 .nil)).k (Kt.same s45)) (s45 _ _ hc3) nrm' (putM_nd pr2.nd) dom'⟩
      · rintro σ B ⟨s', M', _, _, _, _, _, _, rfl, bagB, fr, pp⟩
        exact kk _ _ _ bagB fr pp
    refine ⟨_, rfl, rfl, _, rfl, ite2 (fun c2 => ?_) (fun c2 => ?_)⟩
    · refine ⟨_, rfl, _, rfl, u, _, _, _, rfl, rfl, hu1, atI_nat (j := 0) rfl, b, n + 1, 1, h.l, rfl, by omega, hl, bag1, by omega, fun A2 q F zs nq lF dF hq dzs bag2 but2 => ?_⟩
      obtain ⟨f0, rfl⟩ : ∃ f0, F = [f0] := by
        cases F with
        | nil => cases lF
        | cons a r =>
          cases r with
          | nil => exact ⟨a, rfl⟩
          | cons _ _ => cases lF
      obtain ⟨x, rfl, dx0⟩ : ∃ x, zs = [x] ∧ Dt K A2 x (ftD f0) := by
        cases dzs with
        | cons a r =>
          cases r
          exact ⟨_, rfl, a⟩
      have pr2 := pr1.bt bag1 but2
      have df0 := dF f0 List.mem_cons_self
      obtain ⟨g, dx, fs, hp, lf, lk, no⟩ := lk1 pr2
      obtain ⟨f, c, xs, hm, hf, dxs, hc⟩ := id pr2.mod
      refine ⟨q, _, _, _, rfl, rfl, SqL.of hq, atI_nat (j := 0) rfl, ?_⟩
      refine ⟨fun σ B => ∃ s' M' v6 v7 v8 v9 v10 v11, σ = [some (.ref b), some (.ref p), some (.ref u), some (.ref mm), some (.int d), some x, v6, v7, v8, v9, v10, v11] ∧ Bg B b (n + 400) ∧ Fr b p mm A1 B ∧ Pair K T.C T.HC T.PC B p mm h s' M', ?_, ?_⟩
      · refine ⟨_, rfl, _, _, rfl, rfl, _, rfl, iteN (eq_false_of_ne_true c1) ?_⟩
        have fne : f ≠ mm := fun z => by
          rw [z, hm] at hf
          cases hf
          have := dxs.len
          cases M with
          | nil => cases dxs
          | cons a r =>
            cases dxs with
            | cons _ r2 =>
              cases r with
              | nil => cases r2
              | cons b2 r3 =>
                cases r2 with
                | cons _ r4 =>
                  cases r3 with
                  | nil => cases r4
                  | cons b3 r5 =>
                    cases r4 with
                    | cons z _ => cases z
        have lx := dxs.len
        rw [List.length_map] at lx
        have np : ∀ {a : Addr} {ws : List V}, A2 a = some (.lst ws) → a ≠ p := fun e z => by rw [z, hp] at e; cases e
        have nrm' : norm h.l (st.fs.filter fun g => !decide (g = f0)) = norm h.l (M.filter fun g => !decide (g = f0)) := norm_congr fun g => by
          rw [List.mem_filter, List.mem_filter, pr2.nrm, norm_mem]
          exact ⟨fun z => ⟨z.1.2, z.2⟩, fun z => ⟨⟨pr2.dom g z.1, z.1⟩, z.2⟩⟩
        have dom' : ∀ g ∈ M.filter (fun g => !decide (g = f0)), g.2 ≤ h.l.length := fun g m => pr2.dom g (List.mem_filter.mp m).1
        have mem' : f0 ∈ st.fs ↔ f0 ∈ M := by
          rw [pr2.nrm, norm_mem]
          exact ⟨fun z => z.2, fun z => ⟨df0, z⟩⟩
        have rest : ∀ {A3 : Hp} {Sg : L2.St}, Same A2 A3 ∨ True → True := fun _ => trivial
        refine ⟨_, rfl, _, rfl, p, x, h, st, f0, rfl, pr2.pan, ok, dx0, df0, ?_⟩
        by_cases c : f0 ∈ M
        · refine .inl ⟨mem'.mpr c, fun A3 off3 pan3 => ?_⟩
          have hm3 := off3 _ _ (np hm) hm
          have hf3 := off3 _ _ (np hf) hf
          have hc3 := off3 _ _ (np hc) hc
          have kt3 : Kt K A2 A3 := Kt.off hp off3
          have dx3 := dxs.k kt3
          have dx03 := dx0.k kt3
          have bag3 := Bg.offp bag2 hp off3
          have fr3 : Fr b p mm A1 A3 := (Fr.bt but2).trans (Fr.off off3)
          refine ⟨_, rfl, _, rfl, mm, _, _, _, rfl, rfl, SqL.of hm3, atI_nat (j := 0) rfl, ftD f0, M.map ftD, false, dx03.toDp, .lst (SqL.of hf3) dx3.dp, (fine_ft f0 (n := 0)).1, Nat.le_trans (fine_ft f0 (n := 0)).2 (by decide), lay_fts _, ?_⟩
          rw [any_ft, decide_eq_true c]
          refine ⟨_, rfl, iteT ?_⟩
          unfold tC
          refine ne_like (K := K) (.str _) (.str _) (fine_str (n := 0) (x := "mended") (by decide +kernel)) (by decide) ?_
          refine ⟨_, rfl, iteF ?_⟩
          refine ⟨_, rfl, mm, _, _, _, rfl, rfl, SqL.of hm3, atI_nat (j := 0) rfl, f, rfl, ⟨_, SqL.of hf3⟩, fun D hD => ?_⟩
          refine lc_sel (K := K) walk_list (fun g => !decide (g = f0)) (out := ftD) dx3 lx hD (by omega) (fun H' s => SqL.of (s _ _ hf3)) (fun i y g H' hy hg dy sm Q2 Z q2 z0 => ?_) (fun A4 os s4 hos dos => ?_)
          · refine ⟨rfl, ?_⟩
            refine ⟨_, rfl, _, rfl, ftD g, ftD f0, (dy.k (Kt.same sm)).toDp, (dx03.k (Kt.same sm)).toDp, (fine_ft g (n := 0)).shaped (by decide), (fine_ft f0 (n := 0)).shaped (by decide), ?_⟩
            rw [eqv_ftd]
            refine ⟨_, rfl, ?_⟩
            cases cc : !decide (g = f0) with
            | true => exact ⟨_, rfl, q2 cc _ _ (Same.refl _) (dy.k (Kt.same sm))⟩
            | false => exact z0 cc _ (Same.refl _)
          · have hm4 := s4 _ _ hm3
            refine ⟨_, rfl, mm, _, 0, 0, rfl, rfl, hm4, rfl, ?_⟩
            exact ⟨_, M.filter (fun g => !decide (g = f0)), _, _, _, _, _, _, rfl, ((Bg.mset (bag3.keep s4) hm4).mono (by omega)), (fr3.trans (Fr.same s4)).trans Fr.set,
              Pair.mset (s := ⟨norm h.l (st.fs.filter fun g => !decide (g = f0)), st.cs, st.al⟩) (pan3.ks s4) hm4 hos (ne_of_none hm3 hD).symm dos (s4 _ _ hc3) nrm' (pr2.nd.filter _) dom'⟩
        · refine .inr ⟨fun z => c (mem'.mp z), fun A3 s3 => ?_⟩
          have hm3 := s3 _ _ hm
          have hf3 := s3 _ _ hf
          have hc3 := s3 _ _ hc
          have dx3 := dxs.k (Kt.same s3)
          have dx03 := dx0.k (Kt.same s3)
          have bag3 := bag2.keep s3
          have fr3 : Fr b p mm A1 A3 := (Fr.bt but2).trans (Fr.same s3)
          refine ⟨_, rfl, _, rfl, mm, _, _, _, rfl, rfl, SqL.of hm3, atI_nat (j := 0) rfl, ftD f0, M.map ftD, false, dx03.toDp, .lst (SqL.of hf3) dx3.dp, (fine_ft f0 (n := 0)).1, Nat.le_trans (fine_ft f0 (n := 0)).2 (by decide), lay_fts _, ?_⟩
          rw [any_ft, decide_eq_false c]
          refine ⟨_, rfl, iteF ⟨_, rfl, ?_⟩⟩
          show rNeD K x x A3 _
          refine ne_like (K := K) dx03.toDp dx03.toDp (fine_ft f0 (n := 0)) (by decide) ?_
          refine ⟨_, rfl, iteF ?_⟩
          refine ⟨_, rfl, mm, _, _, _, rfl, rfl, SqL.of hm3, atI_nat (j := 0) rfl, f, rfl, ⟨_, SqL.of hf3⟩, fun D hD => ?_⟩
          refine lc_sel (K := K) walk_list (fun g => !decide (g = f0)) (out := ftD) dx3 lx hD (by omega) (fun H' s => SqL.of (s _ _ hf3)) (fun i y g H' hy hg dy sm Q2 Z q2 z0 => ?_) (fun A4 os s4 hos dos => ?_)
          · refine ⟨rfl, ?_⟩
            refine ⟨_, rfl, _, rfl, ftD g, ftD f0, (dy.k (Kt.same sm)).toDp, (dx03.k (Kt.same sm)).toDp, (fine_ft g (n := 0)).shaped (by decide), (fine_ft f0 (n := 0)).shaped (by decide), ?_⟩
            rw [eqv_ftd]
            refine ⟨_, rfl, ?_⟩
            cases cc : !decide (g = f0) with
            | true => exact ⟨_, rfl, q2 cc _ _ (Same.refl _) (dy.k (Kt.same sm))⟩
            | false => exact z0 cc _ (Same.refl _)
          · have hm4 := s4 _ _ hm3
            refine ⟨_, rfl, mm, _, 0, 0, rfl, rfl, hm4, rfl, ?_⟩
            have eM : M.filter (fun g => !decide (g = f0)) = M := List.filter_eq_self.mpr fun g m => by
              rw [decide_eq_false (fun e : g = f0 => c (e ▸ m))]
              rfl
            rw [eM] at dos
            exact ⟨st, M, _, _, _, _, _, _, rfl, ((Bg.mset (bag3.keep s4) hm4).mono (by omega)), (fr3.trans (Fr.same s4)).trans Fr.set,
              Pair.mset (s := st) ((pr2.pan.ks s3).ks s4) hm4 hos (ne_of_none hm3 hD).symm dos (s4 _ _ hc3) pr2.nrm pr2.nd pr2.dom⟩
      · rintro σ B ⟨s', M', _, _, _, _, _, _, rfl, bagB, fr, pp⟩
        exact kk _ _ _ bagB fr pp
    refine ⟨_, rfl, rfl, _, rfl, ite2 (fun c3 => ?_) (fun c3 => ?_)⟩
    · obtain ⟨g, fa, ha, ca, hr0, a1, a2, a3, a4, a5, a6, a7, _, a9⟩ := id pr1.pan
      obtain ⟨dx, fs, hh, hp, lf, lk, gh, hA, no⟩ := id hr0
      obtain ⟨f, c, xs, hm, hf, dxs, hc⟩ := id pr1.mod
      have fne : f ≠ mm := fts_ne hm hf dxs
      refine ⟨small_len (by show 1 ≤ 100000; decide), fun L hL => ?_⟩
      generalize x2 : upd A1 L _ = A2
      obtain ⟨s2, e2⟩ := got x2 hL
      refine ⟨_, rfl, mm, _, _, _, rfl, rfl, SqL.of (s2 _ _ hm), atI_nat (j := 1) rfl, c, _, rfl, .inl (SqL.of (s2 _ _ hc)), ?_⟩
      rw [nV_len, a8]
      refine ⟨L, _, _, rfl, rfl, e2, by omega, by omega, by rw [Int.toNat_natCast]; exact small_len (by show 1 * _ ≤ 100000; omega), fun L2 hL2 => ?_⟩
      rw [Int.toNat_natCast, flat_rep]
      generalize x3 : upd A2 L2 _ = A3
      obtain ⟨s3, e3⟩ := got x3 hL2
      have s13 := s2.trans s3
      have hm3 := s13 _ _ hm
      refine ⟨_, rfl, mm, _, 1, 1, rfl, rfl, hm3, rfl, ?_⟩
      have e3' : A3 L2 = some (.lst (nV (List.replicate (h.l.count true) 0))) := by
        rw [e3]
        unfold nV
        rw [List.map_replicate]
        rfl
      have hm4 : (upd A3 mm (.lst ([V.ref f, .ref c, .bl st.al].set 1 (.ref L2)))) mm = some (.lst [.ref f, .ref L2, .bl st.al]) := upd_same
      have kt4 : Kt K A3 (upd A3 mm (.lst ([V.ref f, .ref c, .bl st.al].set 1 (.ref L2)))) := Kt.lst hm3
      have hf4 : (upd A3 mm (.lst ([V.ref f, .ref c, .bl st.al].set 1 (.ref L2)))) f = some (.lst xs) := (upd_ne fne).trans (s13 _ _ hf)
      have hc4 : (upd A3 mm (.lst ([V.ref f, .ref c, .bl st.al].set 1 (.ref L2)))) L2 = some (.lst (nV (List.replicate (h.l.count true) 0))) := (upd_ne (nV_ne hm3 e3')).trans e3'
      have pan4 : PanelAt K T.C T.HC T.PC (upd A3 mm (.lst ([V.ref f, .ref c, .bl st.al].set 1 (.ref L2)))) p h st := (pr1.pan.ks s13).lset hm3
      have bag4 := Bg.mset (o := .lst ([V.ref f, .ref c, .bl st.al].set 1 (.ref L2))) (bag1.keep s13) hm3
      have fr4 : Fr b p mm A1 (upd A3 mm (.lst ([V.ref f, .ref c, .bl st.al].set 1 (.ref L2)))) := (Fr.same s13).trans Fr.set
      have d4 := (dxs.k (Kt.same s13)).k kt4
      generalize upd A3 mm _ = A4 at *
      refine ⟨_, rfl, mm, _, 2, 2, rfl, rfl, hm4, rfl, ?_⟩
      have mod5 : ModelAt K (upd A4 mm (.lst ([V.ref f, .ref L2, .bl st.al].set 2 (.bl false)))) mm M (List.replicate (h.l.count true) 0) false := ⟨f, L2, xs, upd_same, (upd_ne fne).trans hf4, d4.k (Kt.lst hm4), (upd_ne (nV_ne hm4 hc4)).trans hc4⟩
      have pan5 : PanelAt K T.C T.HC T.PC (upd A4 mm (.lst ([V.ref f, .ref L2, .bl st.al].set 2 (.bl false)))) p h st := pan4.lset hm4
      have bag5 := Bg.mset (o := .lst ([V.ref f, .ref L2, .bl st.al].set 2 (.bl false))) bag4 hm4
      have fr5 : Fr b p mm A1 (upd A4 mm (.lst ([V.ref f, .ref L2, .bl st.al].set 2 (.bl false)))) := fr4.trans Fr.set
      generalize upd A4 mm _ = A5 at *
      obtain ⟨g5, fa5, ha5, ca5, hr5, b1, b2, b3, b4, b5, b6, b7, _, b9⟩ := id pan5
      obtain ⟨dx5, fs5, hh5, hp5, lf5, lk5, gh5, hA5, no5⟩ := id hr5
      refine ⟨_, rfl, p, dx5, fs5, rfl, hp5, pn_meth "reset" lk5 no5 (by decide +kernel), p, h, g5, rfl, hr5, hl, by omega, fun A6 w6 off6 raw6 hw6 => ?_⟩
      exact ⟨rfl, kk A6 ⟨st.fs, List.replicate (h.l.count true) 0, false⟩ M ((Bg.offp bag5 hp5 off6).mono (by omega)) (fr5.trans (Fr.off off6)) ⟨panel_zero hp5 off6 raw6 b1 b2 b5 b6 b9 hw6, mod5.off hp5 off6, pr1.nrm, pr1.nd, pr1.dom⟩⟩
    refine ⟨_, rfl, rfl, _, rfl, ite2 (fun c4 => ?_) (fun c4 => ?_)⟩
    · refine ⟨_, rfl, _, rfl, _, rfl, _, rfl, b, p, u, mm, n + 1, h, st, M, rfl, bag1, by omega, hu1, ok, pr1, fun H2 bag2 but2 => ?_⟩
      exact kk H2 st M (bag2.mono (by omega)) (Fr.bt but2) (pr1.bt bag1 but2)
    refine ⟨_, rfl, rfl, _, rfl, ite2 (fun c5 => ?_) (fun c5 => ?_)⟩
    · refine ⟨_, rfl, _, rfl, _, rfl, _, rfl, b, p, u, mm, n + 1, h, st, M, rfl, bag1, by omega, hu1, ok, pr1, fun H2 bag2 but2 => ?_⟩
      exact kk H2 st M (bag2.mono (by omega)) (Fr.bt but2) (pr1.bt bag1 but2)
    refine ⟨_, rfl, rfl, _, rfl, and_fall ?_ (fun c6 fall => ?_)⟩
    · obtain ⟨f, c, xs, hm, hf, dxs, hc⟩ := id pr1.mod
      refine ⟨_, rfl, _, rfl, u, _, _, _, rfl, rfl, hu1, atI_nat (j := 1) rfl, _, rfl, mm, _, _, _, rfl, rfl, SqL.of hm, atI_nat (j := 1) rfl, c, _, rfl, .inl (SqL.of hc), ?_⟩
      rw [nV_len, a8]
      refine ⟨b, n + 1, h.m, h.l.count true, rfl, by omega, bag1, by omega, fun A2 r ms nr lms hr bag2 but2 => ?_⟩
      have pr2 := pr1.bt bag1 but2
      have hu2 := SqT.k hu1 (kt_bt bag1 but2)
      have rmm : r ≠ mm := (ne_of_none hm nr).symm
      have fr2 : Fr b p mm A1 A2 := Fr.bt but2
      clear hm hf dxs hc f c xs
      obtain ⟨f, c, xs, hm, hf, dxs, hc⟩ := id pr2.mod
      have fne : f ≠ mm := fts_ne hm hf dxs
      refine ⟨_, rfl, _, rfl, mm, _, _, _, rfl, rfl, SqL.of hm, atI_nat (j := 0) rfl, _, rfl, mm, _, _, _, rfl, rfl, SqL.of hm, atI_nat (j := 1) rfl, _, rfl, mm, _, _, _, rfl, rfl, SqL.of hm, atI_nat (j := 2) rfl, _, rfl, u, f, c, r, st.al, h, M, st.cs, ms, rfl, hu2, hl, ⟨false, xs, SqL.of hf, dxs⟩, ⟨by omega, pr1.dom⟩, SqL.of hc, a8, SqL.of hr, lms, fun A3 t r3 s3 nr3 hr3 ht3 => ?_⟩
      have es : stepC h st.fs st.cs ms = stepC h M st.cs ms := by
        unfold stepC
        rw [pr1.nrm, heard_norm pr1.dom]
      rw [← es] at hr3 ht3
      have bag3 := bag2.keep s3
      have hm3 := s3 _ _ hm
      refine ⟨t, _, rfl, ht3, rfl, _, _, rfl, _, _, rfl, _, _, rfl, rfl, ?_⟩
      refine ⟨_, rfl, _, rfl, mm, _, 1, 1, rfl, rfl, hm3, rfl, ?_⟩
      have hm4 : (upd A3 mm (.lst ([V.ref f, .ref c, .bl st.al].set 1 (.ref r3)))) mm = some (.lst [.ref f, .ref r3, .bl st.al]) := upd_same
      have kt4 : Kt K A3 (upd A3 mm (.lst ([V.ref f, .ref c, .bl st.al].set 1 (.ref r3)))) := Kt.lst hm3
      have hf4 : (upd A3 mm (.lst ([V.ref f, .ref c, .bl st.al].set 1 (.ref r3)))) f = some (.lst xs) := (upd_ne fne).trans (s3 _ _ hf)
      have hc4 : (upd A3 mm (.lst ([V.ref f, .ref c, .bl st.al].set 1 (.ref r3)))) r3 = some (.lst (nV (stepC h st.fs st.cs ms))) := (upd_ne (nV_ne hm3 hr3)).trans hr3
      have hr4 : (upd A3 mm (.lst ([V.ref f, .ref c, .bl st.al].set 1 (.ref r3)))) r = some (.lst (ms.map V.int)) := (upd_ne rmm).trans (s3 _ _ hr)
      have pan4 : PanelAt K T.C T.HC T.PC (upd A3 mm (.lst ([V.ref f, .ref c, .bl st.al].set 1 (.ref r3)))) p h st := (pr2.pan.ks s3).lset hm3
      have bag4 := Bg.mset (o := .lst ([V.ref f, .ref c, .bl st.al].set 1 (.ref r3))) bag3 hm3
      have fr4 : Fr b p mm A1 (upd A3 mm (.lst ([V.ref f, .ref c, .bl st.al].set 1 (.ref r3)))) := (fr2.trans (Fr.same s3)).trans Fr.set
      have d4 := (dxs.k (Kt.same s3)).k kt4
      generalize upd A3 mm _ = A4 at *
      refine ⟨_, rfl, _, rfl, mm, _, 2, 2, rfl, rfl, hm4, rfl, ?_⟩
      have mod5 : ModelAt K (upd A4 mm (.lst ([V.ref f, .ref r3, .bl st.al].set 2 (.bl (alarm h (stepC h st.fs st.cs ms)))))) mm M (stepC h st.fs st.cs ms) (alarm h (stepC h st.fs st.cs ms)) := ⟨f, r3, xs, upd_same, (upd_ne fne).trans hf4, d4.k (Kt.lst hm4), (upd_ne (nV_ne hm4 hc4)).trans hc4⟩
      have pan5 : PanelAt K T.C T.HC T.PC (upd A4 mm (.lst ([V.ref f, .ref r3, .bl st.al].set 2 (.bl (alarm h (stepC h st.fs st.cs ms)))))) p h st := pan4.lset hm4
      have bag5 := Bg.mset (o := .lst ([V.ref f, .ref r3, .bl st.al].set 2 (.bl (alarm h (stepC h st.fs st.cs ms))))) bag4 hm4
      have fr5 : Fr b p mm A1 (upd A4 mm (.lst ([V.ref f, .ref r3, .bl st.al].set 2 (.bl (alarm h (stepC h st.fs st.cs ms)))))) := fr4.trans Fr.set
      have hr5 : (upd A4 mm (.lst ([V.ref f, .ref r3, .bl st.al].set 2 (.bl (alarm h (stepC h st.fs st.cs ms)))))) r = some (.lst (ms.map V.int)) := (upd_ne rmm).trans hr4
      generalize upd A4 mm _ = A5 at *
      obtain ⟨g5, fa5, ha5, ca5, hrw5, _⟩ := id pan5
      obtain ⟨dx5, fs5, hh5, hp5, lf5, lk5, gh5, hA5, no5⟩ := id hrw5
      refine ⟨_, rfl, p, dx5, fs5, rfl, hp5, pn_meth "beat" lk5 no5 (by decide +kernel), _, rfl, r, _, rfl, .inl ⟨SqL.of hr5, fun t5 ht5 => ?_⟩⟩
      generalize x6 : upd A5 t5 _ = A6
      obtain ⟨s6, e6⟩ := got x6 ht5
      refine ⟨p, t5, h, st, .good ms, rfl, pan5.ks s6, ok, .good (t := true) (SqT.of e6) lms, fun A7 off7 pan7 => ?_⟩
      have hp6 := s6 _ _ hp5
      have kk7 := kk A7 (beatP h st ms) M ((Bg.offp (bag5.keep s6) hp6 off7).mono (by omega)) ((fr5.trans (Fr.same s6)).trans (Fr.off off7)) ⟨pan7, (mod5.keep s6).off hp6 off7, pr1.nrm, pr1.nd, pr1.dom⟩
      refine ⟨_, rfl, _, rfl, ?_⟩
      show if (alarm h (stepC h st.fs st.cs ms) && !st.al) = true then _ else _
      cases ew : (alarm h (stepC h st.fs st.cs ms) && !st.al) with
      | true =>
        refine iteT ⟨_, rfl, _, _, rfl, rfl, ?_⟩
        rw [show warns h st ms = true from ew]
        exact kk7
      | false =>
        refine iteF ⟨_, rfl, _, _, rfl, rfl, ?_⟩
        rw [show warns h st ms = false from ew]
        exact kk7
    · obtain ⟨f, c, xs, hm, hf, dxs, hc⟩ := id pr1.mod
      have lx := dxs.len
      rw [List.length_map] at lx
      refine ⟨_, rfl, mm, _, _, _, rfl, rfl, SqL.of hm, atI_nat (j := 0) rfl, f, _, rfl, .inl (SqL.of hf), _, _, rfl, rfl, _, rfl, ite2 (fun c7 => ?_) (fun _ => fall)⟩
      have c7 := of_decide_eq_true c7
      have xpos : 0 < xs.length := by omega
      refine ⟨_, rfl, mm, _, _, _, rfl, rfl, SqL.of hm, atI_nat (j := 0) rfl, _, rfl, _, rfl, mm, _, _, _, rfl, rfl, SqL.of hm, atI_nat (j := 0) rfl, f, _, rfl, .inl (SqL.of hf), b, n + 1, ((xs.length : Nat) : Int), rfl, by omega, by omega, bag1, by omega, fun A2 d2 g0 g1 bag2 but2 => ?_⟩
      obtain ⟨k2, rfl⟩ : ∃ k : Nat, d2 = ((k : Nat) : Int) := ⟨d2.toNat, by omega⟩
      have k2l : k2 < xs.length := by omega
      have pr2 := pr1.bt bag1 but2
      have fr2 : Fr b p mm A1 A2 := Fr.bt but2
      have hm2 := but2.keep _ _ (bg_no bag1 hm fun _ _ _ _ _ z => by cases z) hm
      have hf2 := but2.keep _ _ (bg_no bag1 hf (fts_no dxs)) hf
      have hc2 := but2.keep _ _ (bg_no bag1 hc nats_no) hc
      have dx2 := dxs.k (kt_bt bag1 but2)
      have hx : xs[k2]? = some xs[k2] := List.getElem?_eq_getElem k2l
      obtain ⟨f0, hf0, dx0⟩ := ft_at dx2 hx
      generalize xs[k2] = x at *
      have mf0 : f0 ∈ M := List.mem_of_getElem? hf0
      have df0 := pr1.dom f0 mf0
      refine ⟨f, _, _, _, rfl, rfl, SqL.of hf2, atI_nat hx, ?_⟩
      refine ⟨_, rfl, mm, _, _, _, rfl, rfl, SqL.of hm2, atI_nat (j := 0) rfl, f, rfl, ⟨_, SqL.of hf2⟩, fun D hD => ?_⟩
      refine lc_sel (K := K) walk_list (fun g => !decide (g = f0)) (out := ftD) dx2 lx hD (by omega) (fun H' s => SqL.of (s _ _ hf2)) (fun i y g H' hy hg dy sm Q2 Z q2 z0 => ?_) (fun A4 os s4 hos dos => ?_)
      · refine ⟨rfl, ?_⟩
        refine ⟨_, rfl, _, rfl, ftD g, ftD f0, (dy.k (Kt.same sm)).toDp, (dx0.k (Kt.same sm)).toDp, (fine_ft g (n := 0)).shaped (by decide), (fine_ft f0 (n := 0)).shaped (by decide), ?_⟩
        rw [eqv_ftd]
        refine ⟨_, rfl, ?_⟩
        cases cc : !decide (g = f0) with
        | true => exact ⟨_, rfl, q2 cc _ _ (Same.refl _) (dy.k (Kt.same sm))⟩
        | false => exact z0 cc _ (Same.refl _)
      · have hm4 := s4 _ _ hm2
        refine ⟨_, rfl, mm, _, 0, 0, rfl, rfl, hm4, rfl, ?_⟩
        have nrm' : norm h.l (st.fs.filter fun g => !decide (g = f0)) = norm h.l (M.filter fun g => !decide (g = f0)) := norm_congr fun g => by
          rw [List.mem_filter, List.mem_filter, pr1.nrm, norm_mem]
          exact ⟨fun z => ⟨z.1.2, z.2⟩, fun z => ⟨⟨pr1.dom g z.1, z.1⟩, z.2⟩⟩
        have mod5 : ModelAt K (upd A4 mm (.lst ([V.ref f, .ref c, .bl st.al].set 0 (.ref D)))) mm (M.filter fun g => !decide (g = f0)) st.cs st.al := ⟨D, c, os, upd_same, (upd_ne (ne_of_none hm2 hD).symm).trans hos, dos.k (Kt.lst hm4), (upd_ne (nV_ne hm4 (s4 _ _ hc2))).trans (s4 _ _ hc2)⟩
        have pan5 : PanelAt K T.C T.HC T.PC (upd A4 mm (.lst ([V.ref f, .ref c, .bl st.al].set 0 (.ref D)))) p h st := (pr2.pan.ks s4).lset hm4
        have bag5 := Bg.mset (o := .lst ([V.ref f, .ref c, .bl st.al].set 0 (.ref D))) (bag2.keep s4) hm4
        have fr5 : Fr b p mm A1 (upd A4 mm (.lst ([V.ref f, .ref c, .bl st.al].set 0 (.ref D)))) := (fr2.trans (Fr.same s4)).trans Fr.set
        have dx5 := (dx0.k (Kt.same s4)).k (Kt.lst (o := .lst ([V.ref f, .ref c, .bl st.al].set 0 (.ref D))) hm4)
        generalize upd A4 mm _ = A5 at *
        obtain ⟨g5, fa5, ha5, ca5, hrw5, _⟩ := id pan5
        obtain ⟨dxp, fs5, hh5, hp5, lf5, lk5, gh5, hA5, no5⟩ := id hrw5
        refine ⟨_, rfl, _, rfl, p, x, h, st, f0, rfl, pan5, ok, dx5, df0, .inl ⟨by rw [pr1.nrm, norm_mem]; exact ⟨df0, mf0⟩, fun A7 off7 pan7 => ?_⟩⟩
        have kk7 := kk A7 ⟨norm h.l (st.fs.filter fun g => !decide (g = f0)), st.cs, st.al⟩ (M.filter fun g => !decide (g = f0)) ((Bg.offp bag5 hp5 off7).mono (by omega)) (fr5.trans (Fr.off off7)) ⟨pan7, mod5.off hp5 off7, nrm', pr1.nd.filter _, fun g m => pr1.dom g (List.mem_filter.mp m).1⟩
        refine ⟨rfl, ?_⟩
        rw [decide_eq_true rfl]
        exact kk7
end
end K52

namespace K52
open PySem L2 Wm TL Dv Rm Lo
section
variable {P : Program} {w : World} {K : PySem.W.Frag} {mg : Str → Option Value} {base : Heap}
theorem opn_nil (l : List Bool) (k : Nat) : opn l [] k = true := rfl
theorem heard_nil (l : List Bool) : heardL l (opn l []) = List.range (l.count true) := by
  refine List.filter_eq_self.mpr fun j m => ?_
  have : pL l (opn l []) j = true := by
    unfold pL
    exact List.all_eq_true.mpr fun k _ => opn_nil l k
  rw [this]
  rfl
theorem falseL_nil (h : Hs) (nl : h.n ≤ h.l.count true) : falseL h [] = (List.range (h.l.count true)).map fun j => if j < h.n then h.m + 1 else h.m := by
  unfold falseL
  refine List.map_congr_left fun j m => ?_
  rw [heard_nil, List.take_range, Nat.min_eq_left nl]
  by_cases c : j < h.n
  · rw [if_pos c, if_pos (List.mem_range.mpr c)]
  · rw [if_neg c, if_neg fun z => c (List.mem_range.mp z)]
end
end K52

namespace K52
open PySem L2 Wm TL Dv Rm Lo
section
variable {P : Program} {w : World} {K : PySem.W.Frag} {mg : Str → Option Value} {base : Heap}
theorem wit {H : Hp} {x : V} {d : PyData} (a : Dt K H x d) (f : Fine 3 d) : ∃ d, Dt K H x d ∧ Fine 3 d := ⟨d, a, f⟩
theorem rep_dps {H : Hp} {x : V} {d : PyData} (h : Dt K H x d) (n : Nat) : DpAll K H (List.replicate n [x]).flatten (List.replicate n d) := (rep_dts h n).dp
theorem fine_rep {n k : Nat} {d : PyData} (h : Fine n d) : Fine (n + 1) (.tuple (List.replicate k d)) := fine_tup fun z m => by
  rw [(List.mem_replicate.mp m).2]
  exact h
theorem fine_ints {n : Nat} (is : List Int) : Fine (n + 1) (.tuple (is.map PyData.int)) := fine_tup fun d m => by
  obtain ⟨f, _, rfl⟩ := List.mem_map.mp m
  exact fine_int _
theorem sqL_bt {H H' : Hp} {b a : Addr} {n : Nat} {ms : List Int} (h : SqL K H a (ms.map V.int)) (bag : Bg H b n) (e : Bt b H H') : SqL K H' a (ms.map V.int) := by
  have nb : ∀ {o : Obj}, H a = some (.frz o (.lst (ms.map V.int))) → a ≠ b := fun g z => by
    obtain ⟨c, k, x, y, zz, ns, hb, _⟩ := bag
    rw [z, hb] at g
    cases g
  rcases h with (h | ⟨o, h⟩) | h
  · exact .inl (.inl (e.keep _ _ (bg_no bag h fun _ _ _ _ _ z => by cases ms <;> cases z) h))
  · exact .inl (.inr ⟨o, e.keep _ _ (nb h) h⟩)
  · exact .inr h
theorem BeatsAt.bt {H H' : Hp} {b q : Addr} {n k : Nat} {rs : List (List Int)} (h : BeatsAt K H q n rs) (bag : Bg H b k) (e : Bt b H H') : BeatsAt K H' q n rs := by
  obtain ⟨ys, hq, ly, l50, rows⟩ := h
  refine ⟨ys, e.keep _ _ (bg_no bag hq fun c k x y z ez => ?_) hq, ly, l50, fun i x ms hx hm => ?_⟩
  · subst ez
    obtain ⟨ms, hms⟩ : ∃ ms, rs[1]? = some ms := ⟨rs[1]'(by rw [← ly]; show 1 < 5; decide), List.getElem?_eq_getElem _⟩
    obtain ⟨_, a, ea, _⟩ := rows 1 _ ms rfl hms
    cases ea
  · obtain ⟨l1, a, ea, ha⟩ := rows i x ms hx hm
    exact ⟨l1, a, ea, sqL_bt ha bag e⟩
theorem BeatsAt.ks {H H' : Hp} {q : Addr} {n : Nat} {rs : List (List Int)} (h : BeatsAt K H q n rs) (e : Same H H') : BeatsAt K H' q n rs := by
  obtain ⟨ys, hq, ly, l50, rows⟩ := h
  refine ⟨ys, e _ _ hq, ly, l50, fun i x ms hx hm => ?_⟩
  obtain ⟨l1, a, ea, ha⟩ := rows i x ms hx hm
  exact ⟨l1, a, ea, Hf.keepL e ha⟩
/-- what first_warning tells of good rows -/
def optV : Option Nat → V
  | none => .non
  | some k => .int ((k : Nat) : Int)
def optD : Option Nat → PyData
  | none => .none
  | some k => .int ((k : Nat) : Int)
theorem opt_dp {H : Hp} (o : Option Nat) : Dp K H (optV o) (optD o) := by
  cases o with
  | none => exact .non
  | some k => exact .int _
theorem fine_opt {n : Nat} (o : Option Nat) : Fine n (optD o) := by
  cases o with
  | none => exact ⟨by simp [optD, PyData.canLay0], by simp [optD, PyData.depth]⟩
  | some k => exact fine_int _
theorem fw_spec {C HC PC CF CV : Addr} {H : Hp} {p bts fq : Addr} {h : Hs} {rs : List (List Int)} {fs : List Ft} {Q : VK} {E : XK} (hA : HouseAt K C HC H p h) (ok : HsOk h) (hb : BeatsAt K H bts (h.l.count true) rs) (hF : FtsAt K H fq fs) (fok : FOk h.l.length fs)
    (k : ∀ H', Same H H' → Q (optV (firstW h (putsP h (freshP h) fs) rs)) H') : sp_first_warning K C HC PC CF CV [.ref p, .ref bts, .ref fq] H Q E := by
  obtain ⟨ys, hq, ly, l50, rows⟩ := hb
  refine ⟨p, bts, fq, h, rfl, hA, ok, .inr ⟨fs, rs, hF, fok, false, ys, [], by rw [List.append_nil]; exact SqL.of hq, ly, by rw [List.append_nil]; omega, fun i x ms hx hm => ?_, ?_⟩⟩
  · obtain ⟨l1, a, ea, ha⟩ := rows i x ms hx hm
    exact ⟨a, ea, .good (t := false) ha l1⟩
  · cases e : firstW h (putsP h (freshP h) fs) rs with
    | none =>
      rw [e] at k
      exact .inl ⟨rfl, rfl, k⟩
    | some j =>
      rw [e] at k
      exact .inr ⟨j, rfl, k⟩
theorem ok_left_out (T : Txt K mg) : FnOk P w K mg base CX0 11 T.a_left_out T.d_left_out ["_law_state", "_law_house", "_law_plan", "_law_beats"] (sp_left_out K T.C T.HC T.PC) := by
  refine T.F_left_out.ok sc_left_out (fun vs H Q E h => ?_) (fun cdv A outer s H vs Q E hr h => ?_)
  · obtain ⟨b, p, u, bts, n, h, rs, rfl, _⟩ := h
    rfl
  · obtain ⟨b, p, u, bts, n, h, rs, rfl, hbag, hn, hu, ok, hA, hbt, kk⟩ := h
    have hl := ok.ri.len
    have cl : h.l.count true ≤ h.l.length := List.count_le_length
    have n1 := ok.n1
    have nl := ok.nl
    have r1' := ok.r1
    have r8' := ok.r8
    have ez : (((rgS h.l).length : Nat) : Int) + 1 = ((h.l.length + 1 : Nat) : Int) := by rw [rgS_len]; omega
    refine ⟨_, (pss_cons (ps_set (i := 4) sc_left_out.nd rfl (Or.inl rfl) (pe_ix ix_list (pe_lst (pa_cons (pe_tup (pa_cons pe_str (pa_cons (pe_un un_neg pe_int) pa_nil))) (pa_cons (pe_tup (pa_cons pe_str (pa_cons (pe_op op_add (pe_callB call_len_str (by rfl) T.z_len PySem.boot_len (pa_cons (pe_ix ix_tup (pv 2) pe_int (fun _ _ => rfl)) pa_nil)) pe_int) pa_nil))) (pa_cons pe_non (pa_cons (pe_tup (pa_cons pe_str (pa_cons pe_int pa_nil))) (pa_cons (pe_lst (pa_cons pe_str (pa_cons pe_int pa_nil))) pa_nil)))))) (pe_call (ok_draw T) (hr.mono (by decide)) (by rfl) T.g_draw T.F_draw.kp T.b_draw .nil pass0 (pa_cons (pv 0) (pa_cons pe_int pa_nil))) (fun _ _ => rfl)))
      (pss_cons (ps_if (pt_cmpR (op_neD hr.units) (pe_call (ok_silent T) (hr.mono (by decide)) (by rfl) T.g_silent T.F_silent.kp T.b_silent .nil pass0 (pa_cons (pv 1) (pa_cons (pv 4) pa_nil))) (pe_lst (pa_cons (pv 4) (pa_cons (pv 4) (pa_cons (pv 4) pa_nil)))) (nomark _))
        (pss_one (ps_ret pe_bl))
        pss_nil)
      (pss_cons (ps_set (i := 5) sc_left_out.nd rfl (Or.inl rfl) (pe_callTy call_tuple_of (by rfl) T.z_tuple (by decide +kernel) (pa_cons (pe_lc (own := [("_law_k", 6)]) (g := gName 6) (tt := tYes) rfl sc_left_out.nd (pi_range1 (by rfl) T.z_range (pa_cons (pe_fld (pv 1) rfl) pa_nil)) (blkOk_by (own := [("_law_k", 6)]) (N := nm_left_out) (sc := (defScope s_left_out)) (by decide +kernel)) (fun _ _ _ _ _ => pg_name (i := 6) sc_left_out.nd rfl (Or.inl rfl)) (fun _ _ _ _ _ => pts_nil) (fun _ _ _ _ _ => (pe_ifExp (pt_cmpR op_lt (pv 6) (pe_ix (show IxR _ (rIxT K) from ix_tup) (pv 2) pe_int (fun _ _ => rfl)) (nomark _)) (pe_op op_add (pe_ix (show IxR _ (rIxT K) from ix_tup) (pv 2) pe_int (fun _ _ => rfl)) pe_int) (pe_ix (show IxR _ (rIxT K) from ix_tup) (pv 2) pe_int (fun _ _ => rfl))))) pa_nil)))
      (pss_cons (ps_if (PW.pt (pw_or (pt_cmpR (op_neD hr.units) (pe_call (ok_false_levels T) (hr.mono (by decide)) (by rfl) T.g_false_levels T.F_false_levels.kp T.b0_false_levels (.cons (show RelV (V.ref T.eL) (Value.ref T.eL) from rfl) .nil) Mk1.passF (pa_cons (pv 1) pa_nil)) (pe_op Tu1.op_repB (pe_tup (pa_cons (pv 5) pa_nil)) (pe_ix ix_tup (pv 2) pe_int (fun _ _ => rfl))) (nomark _)) (pw_or1 (pt_cmpR (op_neD hr.units) (pe_call (ok_false_levels T) (hr.mono (by decide)) (by rfl) T.g_false_levels T.F_false_levels.kp T.b_false_levels .nil Mk1.passF (pa_cons (pv 1) (pa_cons (pe_tup pa_nil) pa_nil))) (pe_op Tu1.op_repB (pe_tup (pa_cons (pv 5) pa_nil)) (pe_ix ix_tup (pv 2) pe_int (fun _ _ => rfl))) (nomark _)))))
        (pss_one (ps_ret pe_bl))
        pss_nil)
      (pss_one (ps_ret (pe_cmpR (op_eqD hr.units) (pe_call (ok_first_warning T) (hr.mono (by decide)) (by rfl) T.g_first_warning T.F_first_warning.kp T.b0_first_warning (.cons (show RelV (V.ref T.eF) (Value.ref T.eF) from rfl) .nil) Mk1.passF (pa_cons (pv 1) (pa_cons (pv 3) pa_nil))) (pe_call (ok_first_warning T) (hr.mono (by decide)) (by rfl) T.g_first_warning T.F_first_warning.kp T.b_first_warning .nil Mk1.passF (pa_cons (pv 1) (pa_cons (pv 3) (pa_cons (pe_lst pa_nil) pa_nil)))) (nomark _)))))))), ?_⟩
    refine ⟨_, rfl, small_len (by show 2 ≤ 100000; decide), fun t1 h1 => ?_⟩
    generalize x1 : upd H t1 _ = A1
    obtain ⟨s1, e1⟩ := got x1 h1
    refine ⟨_, rfl, u, _, _, _, rfl, rfl, sameT s1 hu, atI_nat (j := 0) rfl, _, rfl, rg_small (by omega), _, _, rfl, rfl, small_len (by show 2 ≤ 100000; decide), fun t2 h2 => ?_⟩
    generalize x2 : upd A1 t2 _ = A2
    obtain ⟨s2, e2⟩ := got x2 h2
    dsimp only at e2
    rw [ez] at e2
    refine ⟨small_len (by show 2 ≤ 100000; decide), fun t3 h3 => ?_⟩
    generalize x3 : upd A2 t3 _ = A3
    obtain ⟨s3, e3⟩ := got x3 h3
    refine ⟨small_len (by show 2 ≤ 100000; decide), fun t4 h4 => ?_⟩
    generalize x4 : upd A3 t4 _ = A4
    obtain ⟨s4, e4⟩ := got x4 h4
    refine ⟨small_len (by show 5 ≤ 100000; decide), fun L5 h5 => ?_⟩
    generalize x5 : upd A4 L5 _ = A5
    obtain ⟨s5, e5⟩ := got x5 h5
    have s15 := (((s1.trans s2).trans s3).trans s4).trans s5
    have bag5 := hbag.keep s15
    have L5b : L5 ≠ b := ((hbag.keep (((s1.trans s2).trans s3).trans s4))).off h5
    have odds : ∀ d : Int, 0 ≤ d → d < 5 → ∃ x, atI [V.ref t1, .ref t2, .non, .ref t3, .ref t4] d = some x ∧ (∀ B, Bt b A5 B → Odd K B h.l.length x ∧ ∃ dd, Dp K B x dd ∧ Fine 3 dd) := by
      have nb : ∀ {t : Addr}, (∃ A, Same A A5 ∧ Bg A b n ∧ A t = none) → t ≠ b := fun ⟨A, _, g, e⟩ => g.off e
      have b1 : t1 ≠ b := hbag.off h1
      have b2 : t2 ≠ b := (hbag.keep s1).off h2
      have b3 : t3 ≠ b := (hbag.keep (s1.trans s2)).off h3
      have b4 : t4 ≠ b := (hbag.keep ((s1.trans s2).trans s3)).off h4
      intro d d0 d5
      have : d = 0 ∨ d = 1 ∨ d = 2 ∨ d = 3 ∨ d = 4 := by omega
      rcases this with rfl | rfl | rfl | rfl | rfl
      · refine ⟨_, rfl, fun B bt => ?_⟩
        have e := bt.keep _ _ b1 ((((s2.trans s3).trans s4).trans s5) _ _ e1)
        exact ⟨.snd (SqT.of e) rfl (.int _) rfl, _, .tup (SqT.of e) (.cons (.str _) (.cons (.int _) .nil)), fine_pair "cut" (by decide +kernel) (fine_int (n := 2) _)⟩
      · refine ⟨_, rfl, fun B bt => ?_⟩
        have e := bt.keep _ _ b2 (((s3.trans s4).trans s5) _ _ e2)
        refine ⟨.snd (SqT.of e) rfl (.int _) ?_, _, .tup (SqT.of e) (.cons (.str _) (.cons (.int _) .nil)), fine_pair "short" (by decide +kernel) (fine_int (n := 2) _)⟩
        show (decide ((0 : Int) ≤ ((h.l.length + 1 : Nat) : Int)) && decide (((h.l.length + 1 : Nat) : Int) ≤ ((h.l.length : Nat) : Int))) = false
        rw [decide_eq_false (show ¬ ((h.l.length + 1 : Nat) : Int) ≤ ((h.l.length : Nat) : Int) by omega), Bool.and_false]
      · exact ⟨_, rfl, fun B bt => ⟨.non, .none, .non, by simp [PyData.canLay0], by simp [PyData.depth]⟩⟩
      · refine ⟨_, rfl, fun B bt => ?_⟩
        have e := bt.keep _ _ b3 ((s4.trans s5) _ _ e3)
        exact ⟨.fst (SqT.of e) rfl (by decide +kernel), _, .tup (SqT.of e) (.cons (.str _) (.cons (.int _) .nil)), fine_pair "long" (by decide +kernel) (fine_int (n := 2) _)⟩
      · refine ⟨_, rfl, fun B bt => ?_⟩
        have e := bt.keep _ _ b4 (s5 _ _ e4)
        exact ⟨.lst (SqL.of e), _, .lst (SqL.of e) (.cons (.str _) (.cons (.int _) .nil)), fine_lst (n := 2) fun z m => (by
          rcases List.mem_cons.mp m with rfl | m
          · exact fine_str (by decide +kernel)
          · rw [List.mem_singleton.mp m]
            exact fine_int _)⟩
    refine ⟨_, rfl, b, n, 5, rfl, by decide, by decide, bag5, by omega, fun A6 d g0 g1 bag6 but6 => ?_⟩
    obtain ⟨x, hx, od⟩ := odds d g0 g1
    refine ⟨L5, _, d, _, rfl, rfl, SqL.of (but6.keep _ _ L5b e5), hx, ?_⟩
    have but06 : Bt b H A6 := (Bt.of s15).trans but6
    have hA6 := hA.bt hbag but06
    have hu6 := SqT.k hu (kt_bt hbag but06)
    obtain ⟨ys, hys, ly, l50, rows⟩ := id hbt
    have kk : ∀ H', Same A6 H' → Q (.bl true) H' := fun H' s' => kk H' (bag6.keep s') (but06.trans (Bt.of s'))
    refine ⟨_, rfl, _, rfl, p, x, h, rfl, hA6, ok, (od A6 but6).1, fun A7 r s7 hr => ?_⟩
    obtain ⟨dd, dx, fx⟩ := (od A7 (but6.trans (Bt.of s7))).2
    refine ⟨_, rfl, _, rfl, _, rfl, small_len (by show 3 ≤ 100000; decide), fun L6 h6 => ?_⟩
    generalize x8 : upd A7 L6 _ = A8
    obtain ⟨s8, e8⟩ := got x8 h6
    obtain ⟨dd, dx, fx⟩ := (od A8 (but6.trans (Bt.of (s7.trans s8)))).2
    refine ne_like (.lst (SqL.of (s8 _ _ hr)) (.cons dx (.cons dx (.cons dx .nil)))) (.lst (SqL.of e8) (.cons dx (.cons dx (.cons dx .nil)))) (fine_lst (n := 3) fun z m => (by
      rcases List.mem_cons.mp m with rfl | m
      · exact fx
      · rcases List.mem_cons.mp m with rfl | m
        · exact fx
        · rw [List.mem_singleton.mp m]
          exact fx)) (by decide) ⟨_, rfl, iteF ?_⟩
    have s78 := s7.trans s8
    have hA8 := hA6.keep s78
    have hu8 := sameT s78 hu6
    have hb8 := (hbt.bt hbag but06).ks s78
    have kk : ∀ H', Same A8 H' → Q (.bl true) H' := fun H' s' => kk H' (s78.trans s')
    clear dx fx od odds hA hu hbt rows
    obtain ⟨dh, fh, rq, hhp, l1, l2, l3, l4, l5, l6, l7, l8, rr⟩ := id hA8
    refine ⟨_, rfl, p, T.HC, dh, fh, _, rfl, hhp, T.clHC, T.nSk, l7, _, rfl, by omega, by omega, fun D hD => ?_⟩
    rw [Int.toNat_natCast]
    refine Lm.lc_any walk_range (fun i y _ => ((falseL h []).map V.int)[i]? = some y) (fun _ _ _ _ _ e _ _ => e) (fun i A x A' y => by obtain ⟨rfl, _⟩ := y; exact Same.refl _) hD (by omega) (fun A s => trivial) (fun i x A A' hi sm _ hY Q2 Z q2 => ?_) (fun A ws sm hws lw hR => ?_)
    · obtain ⟨rfl, rfl⟩ := hY
      have ez : V.int (0 + ((i : Nat) : Int)) = V.int ((i : Nat) : Int) := by rw [Int.zero_add]
      show gName 6 (V.int (0 + ((i : Nat) : Int))) _ _ _
      rw [ez]
      have at' : ((falseL h []).map V.int)[i]? = some (.int (if i < h.n then h.m + 1 else h.m)) := by
        rw [falseL_nil h nl, List.getElem?_map, List.getElem?_map, List.getElem?_range hi]
        rfl
      have hu9 := sameT sm hu8
      refine ⟨rfl, yesT ⟨_, rfl, _, rfl, u, _, _, _, rfl, rfl, hu9, atI_nat (j := 3) rfl, _, _, rfl, rfl, _, rfl, ite2 (fun c => ?_) (fun c => ?_)⟩⟩
      · have c := of_decide_eq_true c
        rw [if_pos (by omega)] at at'
        exact ⟨_, rfl, u, _, _, _, rfl, rfl, hu9, atI_nat (j := 1) rfl, _, _, rfl, rfl, q2 _ _ (Same.refl _) at'⟩
      · have c : ¬ ((i : Nat) : Int) < ((h.n : Nat) : Int) := fun z => c (decide_eq_true z)
        rw [if_neg (by omega)] at at'
        exact ⟨_, rfl, u, _, _, _, rfl, rfl, hu9, atI_nat (j := 1) rfl, q2 _ _ (Same.refl _) at'⟩
    have fl : (falseL h []).length = h.l.count true := by unfold falseL; rw [List.length_map, List.length_range]
    have ey : ws = (falseL h []).map V.int := Lm.list_is (by rw [List.length_map]; omega) fun i y e => hR i y e
    rw [ey] at hws
    refine ⟨D, _, rfl, .inl ⟨SqL.of hws, fun w hw => ?_⟩⟩
    generalize x9 : upd A w _ = B1
    obtain ⟨s9, e9⟩ := got x9 hw
    have s89 := sm.trans s9
    have dw : Dt K B1 (.ref w) (.tuple ((falseL h []).map PyData.int)) := dt_tup e9 (int_dts _)
    have nilF : FOk h.l.length [] := ⟨by decide, fun f m => by cases m⟩
    have enough : h.n ≤ (heardL h.l (opn h.l [])).length := by rw [heard_nil, List.length_range]; exact nl
    refine ⟨_, rfl, p, T.eL, h, rfl, hA8.keep s89, ok, .inr ⟨[], ⟨true, [], T.eLt _, .nil⟩, nilF, .inr ⟨enough, fun B2 v2 s10 d2 => ?_⟩⟩⟩
    have sb2 : Same A8 B2 := s89.trans s10
    refine ⟨_, rfl, small_len (by show 1 ≤ 100000; decide), fun t5 ht5 => ?_⟩
    generalize x11 : upd B2 t5 _ = B3
    obtain ⟨s11, e11⟩ := got x11 ht5
    have sb3 : Same A8 B3 := sb2.trans s11
    refine ⟨_, rfl, u, _, _, _, rfl, rfl, sameT sb3 hu8, atI_nat (j := 2) rfl, t5, h.r, [V.ref w], rfl, rfl, SqT.of e11, by simp, r1', by omega, by show 1 ≤ 1000; decide, fun w5 B4 s12 hw5 => ?_⟩
    have sb4 : Same A8 B4 := sb3.trans s12
    have dw4 : Dt K B4 (.ref w) (.tuple ((falseL h []).map PyData.int)) := dw.k (Kt.same ((s10.trans s11).trans s12))
    refine ne_like (d2.k (Kt.same (s11.trans s12))).toDp (.tup hw5 (rep_dps dw4 _)) (fine_rep (fine_ints (n := 0) _)) (by decide) ⟨_, rfl, ?_⟩
    refine iteF ⟨_, rfl, small_len (by show 0 ≤ 100000; decide), fun t6 ht6 => ?_⟩
    generalize x13 : upd B4 t6 _ = B5
    obtain ⟨s13, e13⟩ := got x13 ht6
    have sb5 : Same A8 B5 := sb4.trans s13
    refine ⟨p, t6, h, rfl, hA8.keep sb5, ok, .inr ⟨[], ⟨true, [], SqT.of e13, .nil⟩, nilF, .inr ⟨enough, fun B6 v6 s14 d6 => ?_⟩⟩⟩
    have sb6 : Same A8 B6 := sb5.trans s14
    refine ⟨_, rfl, small_len (by show 1 ≤ 100000; decide), fun t7 ht7 => ?_⟩
    generalize x15 : upd B6 t7 _ = B7
    obtain ⟨s15, e15⟩ := got x15 ht7
    have sb7 : Same A8 B7 := sb6.trans s15
    refine ⟨_, rfl, u, _, _, _, rfl, rfl, sameT sb7 hu8, atI_nat (j := 2) rfl, t7, h.r, [V.ref w], rfl, rfl, SqT.of e15, by simp, r1', by omega, by show 1 ≤ 1000; decide, fun w7 B8 s16 hw7 => ?_⟩
    have sb8 : Same A8 B8 := sb7.trans s16
    have dw8 : Dt K B8 (.ref w) (.tuple ((falseL h []).map PyData.int)) := dw4.k (Kt.same (((s13.trans s14).trans s15).trans s16))
    refine ne_like (d6.k (Kt.same (s15.trans s16))).toDp (.tup hw7 (rep_dps dw8 _)) (fine_rep (fine_ints (n := 0) _)) (by decide) ⟨_, rfl, ?_⟩
    refine iteF ⟨_, rfl, _, rfl, ?_⟩
    simp only [tNil, List.cons_append, List.nil_append]
    refine fw_spec (fq := T.eF) (hA8.keep sb8) ok (hb8.ks sb8) ⟨true, [], T.eFt _, .nil⟩ nilF fun C1 s17 => ?_
    have sc1 := sb8.trans s17
    refine ⟨_, rfl, _, rfl, small_len (by show 0 ≤ 100000; decide), fun L9 hL9 => ?_⟩
    generalize x18 : upd C1 L9 _ = C2
    obtain ⟨s18, e18⟩ := got x18 hL9
    have sc2 := sc1.trans s18
    simp only [tNil, List.append_nil]
    refine fw_spec (fq := L9) (hA8.keep sc2) ok (hb8.ks sc2) ⟨false, [], SqL.of e18, .nil⟩ nilF fun C3 s19 => ?_
    exact eq_like (opt_dp _) (opt_dp _) (fine_opt (n := 0) _) (by decide) (kk _ (sc2.trans s19))
end
end K52

namespace K52
open PySem L2 Wm TL Dv Rm Lo
section
variable {P : Program} {w : World} {K : PySem.W.Frag} {mg : Str → Option Value} {base : Heap}
/-! ### the least row, and one level less -/
theorem cs_eq {cs : List Nat} {n : Nat} (e : cs.length = n) : cs = (List.range n).map fun j => cs.getD j 0 := by
  subst e
  refine List.ext_getElem (by simp) fun i h1 h2 => ?_
  rw [List.getElem_map, List.getElem_range, List.getD_eq_getElem?_getD, List.getElem?_eq_getElem h1]
  rfl
theorem filt_map {α β : Type} (f : α → β) (p : β → Bool) (xs : List α) : ((xs.map f).filter p).length = (xs.filter fun x => p (f x)).length := by
  induction xs with
  | nil => rfl
  | cons x xs ih =>
    rw [List.map_cons, List.filter_cons, List.filter_cons]
    split
    · rw [List.length_cons, List.length_cons, ih]
    · exact ih
theorem high_len {h : Hs} {cs : List Nat} (e : cs.length = h.l.count true) : (cs.filter fun c => decide (h.r ≤ ((c : Nat) : Int))).length = ((List.range (h.l.count true)).filter fun j => decide (h.r ≤ ((cs.getD j 0 : Nat) : Int))).length := by
  have := filt_map (fun j => cs.getD j 0) (fun c => decide (h.r ≤ ((c : Nat) : Int))) (List.range (h.l.count true))
  rw [← cs_eq e] at this
  exact this
theorem alarm_no {h : Hs} {cs : List Nat} (S : List Nat) (e : cs.length = h.l.count true) (lt : S.length < h.n) (g : ∀ j, j < h.l.count true → h.r ≤ ((cs.getD j 0 : Nat) : Int) → j ∈ S) : alarm h cs = false := by
  unfold alarm
  rw [high_len e]
  refine decide_eq_false fun z => ?_
  have nd : ((List.range (h.l.count true)).filter fun j => decide (h.r ≤ ((cs.getD j 0 : Nat) : Int))).Nodup := List.nodup_range.filter _
  have := List.Nodup.length_le_of_subset nd (fun j m => by
    obtain ⟨a, b⟩ := List.mem_filter.mp m
    exact g j (List.mem_range.mp a) (of_decide_eq_true b) : _ ⊆ S)
  omega
theorem alarm_yes {h : Hs} {cs : List Nat} (S : List Nat) (e : cs.length = h.l.count true) (nd : S.Nodup) (le : h.n ≤ S.length) (g : ∀ j ∈ S, j < h.l.count true ∧ h.r ≤ ((cs.getD j 0 : Nat) : Int)) : alarm h cs = true := by
  unfold alarm
  rw [high_len e]
  refine decide_eq_true ?_
  have := List.Nodup.length_le_of_subset nd (fun j m => List.mem_filter.mpr ⟨List.mem_range.mpr (g j m).1, decide_eq_true (g j m).2⟩ : S ⊆ (List.range (h.l.count true)).filter fun j => decide (h.r ≤ ((cs.getD j 0 : Nat) : Int)))
  omega
theorem step_get {h : Hs} {fs : List Ft} {cs : List Nat} {ms : List Int} {j : Nat} (hj : j < h.l.count true) : (stepC h fs cs ms).getD j 0 = if j ∈ heardL h.l (opn h.l fs) ∧ h.m < ms.getD j 0 then cs.getD j 0 + 1 else 0 := by
  unfold stepC
  rw [List.getD_eq_getElem?_getD, List.getElem?_map, List.getElem?_range hj]
  show (if decide (j ∈ heardL h.l (opn h.l fs)) && decide (h.m < ms.getD j 0) then cs.getD j 0 + 1 else 0) = _
  by_cases a : j ∈ heardL h.l (opn h.l fs) <;> by_cases b : h.m < ms.getD j 0 <;> simp [a, b]
theorem false_get {h : Hs} {fs : List Ft} {j : Nat} (hj : j < h.l.count true) : (falseL h fs).getD j 0 = if j ∈ (heardL h.l (opn h.l fs)).take h.n then h.m + 1 else h.m := by
  unfold falseL
  rw [List.getD_eq_getElem?_getD, List.getElem?_map, List.getElem?_range hj]
  rfl
/-- no alarm in any row: no warning -/
theorem firstB_no (bs : List Bool) (h : ∀ b ∈ bs, b = false) : firstB bs = none := by
  induction bs with
  | nil => rfl
  | cons b r ih =>
    rw [h b List.mem_cons_self]
    show (firstB r).map (· + 1) = none
    rw [ih fun c m => h c (List.mem_cons_of_mem _ m)]
    rfl
theorem firstB_at (bs : List Bool) (k : Nat) (hk : bs[k]? = some true) (lo : ∀ i, i < k → bs[i]? = some false) : firstB bs = some k := by
  induction bs generalizing k with
  | nil => cases hk
  | cons b r ih =>
    cases k with
    | zero =>
      cases hk
      rfl
    | succ k =>
      have b0 := lo 0 (Nat.succ_pos k)
      cases b0
      show (firstB r).map (· + 1) = _
      rw [ih k hk fun i hi => lo (i + 1) (Nat.succ_lt_succ hi)]
      rfl
theorem beat_cs {h : Hs} {s : Ps} {ms : List Int} : (beatP h s ms).cs = stepC h s.fs s.cs ms := rfl
theorem beat_al {h : Hs} {s : Ps} {ms : List Int} : (beatP h s ms).al = alarm h (stepC h s.fs s.cs ms) := rfl
theorem ear_nd {l : List Bool} {op : Nat → Bool} : (heardL l op).Nodup := List.nodup_range.filter _
theorem ear_lt {l : List Bool} {op : Nat → Bool} {j : Nat} (h : j ∈ heardL l op) : j < l.count true := List.mem_range.mp (List.mem_filter.mp h).1
/-- the counters behind i rows that raise those of S, all of S heard -/
theorem raise_all {h : Hs} {S : List Nat} {row : List Int} (rw' : ∀ j, j < h.l.count true → (h.m < row.getD j 0 ↔ j ∈ S)) : ∀ (i : Nat) (s : Ps), s.cs.length = h.l.count true → (∀ j ∈ S, j ∈ heardL h.l (opn h.l s.fs)) → (∀ j, j < h.l.count true → s.cs.getD j 0 = 0) →
    ∀ j, j < h.l.count true → (runS h s (List.replicate i row)).cs.getD j 0 = if j ∈ S then i else 0 := by
  intro i
  induction i with
  | zero =>
    intro s _ _ z j hj
    show s.cs.getD j 0 = _
    rw [z j hj]
    split <;> rfl
  | succ i ih =>
    intro s l e z j hj
    rw [List.replicate_succ']
    unfold runS
    rw [List.foldl_append]
    show (beatP h (runS h s (List.replicate i row)) row).cs.getD j 0 = _
    rw [beat_cs, step_get hj, ih s l e z j hj, runS_fs]
    by_cases c : j ∈ S
    · rw [if_pos ⟨e j c, (rw' j hj).mpr c⟩, if_pos c, if_pos c]
    · rw [if_neg fun y => c ((rw' j hj).mp y.2), if_neg c]
end
end K52

namespace K52
open PySem L2 Wm TL Dv Rm Lo
section
variable {P : Program} {w : World} {K : PySem.W.Frag} {mg : Str → Option Value} {base : Heap}
theorem runS_succ {h : Hs} {s : Ps} {row : List Int} (i : Nat) : runS h s (List.replicate (i + 1) row) = beatP h (runS h s (List.replicate i row)) row := by
  rw [List.replicate_succ']
  unfold runS
  rw [List.foldl_append]
  rfl
theorem least_warns {h : Hs} {fs : List Ft} {s : Ps} (ok : HsOk h) (ec : s.cs = List.replicate (h.l.count true) 0) (ea : s.al = false) (E : heardL h.l (opn h.l s.fs) = heardL h.l (opn h.l fs)) (le : h.n ≤ (heardL h.l (opn h.l fs)).length) :
    firstW h s (List.replicate h.r.toNat (falseL h fs)) = some (h.r.toNat - 1) := by
  have r1 := ok.r1
  have n1 := ok.n1
  have rr : ((h.r.toNat : Nat) : Int) = h.r := by omega
  have lc : s.cs.length = h.l.count true := by rw [ec, List.length_replicate]
  have rwS : ∀ j, j < h.l.count true → (h.m < (falseL h fs).getD j 0 ↔ j ∈ (heardL h.l (opn h.l fs)).take h.n) := fun j hj => by
    rw [false_get hj]
    by_cases c : j ∈ (heardL h.l (opn h.l fs)).take h.n
    · rw [if_pos c]
      exact ⟨fun _ => c, fun _ => by omega⟩
    · rw [if_neg c]
      exact ⟨fun z => absurd z (by omega), fun z => absurd z c⟩
  have cnt := fun i => raise_all (h := h) (S := (heardL h.l (opn h.l fs)).take h.n) rwS i s lc (fun j m => by rw [E]; exact List.mem_of_mem_take m) (fun j hj => by
    rw [ec, List.getD_eq_getElem?_getD, List.getElem?_replicate, if_pos hj]
    rfl)
  have len := fun i => runS_len (h := h) (List.replicate i (falseL h fs)) s lc
  have low : ∀ i, i < h.r.toNat → alarm h (runS h s (List.replicate i (falseL h fs))).cs = false := fun i hi => alarm_no [] (len i) n1 fun j hj z => by
    rw [cnt i j hj] at z
    exfalso
    split at z <;> omega
  have top : alarm h (runS h s (List.replicate h.r.toNat (falseL h fs))).cs = true := alarm_yes ((heardL h.l (opn h.l fs)).take h.n) (len _) ((ear_nd).sublist (List.take_sublist _ _)) (by rw [List.length_take]; omega) fun j m => by
    have hj := ear_lt (List.mem_of_mem_take m)
    refine ⟨hj, ?_⟩
    rw [cnt _ j hj, if_pos m]
    omega
  have al0 : ∀ i, i < h.r.toNat → (runS h s (List.replicate i (falseL h fs))).al = false := fun i hi => by
    cases i with
    | zero => exact ea
    | succ i =>
      have := low (i + 1) hi
      rw [runS_succ, beat_cs] at this
      rw [runS_succ, beat_al]
      exact this
  have at' : ∀ i, i < h.r.toNat → (runP h s (List.replicate h.r.toNat (falseL h fs))).1[i]? = some (alarm h (runS h s (List.replicate (i + 1) (falseL h fs))).cs) := fun i hi => by
    have e : (List.replicate h.r.toNat (falseL h fs))[i]? = some (falseL h fs) := by rw [List.getElem?_replicate, if_pos hi]
    rw [run_at e, List.take_replicate, Nat.min_eq_left (by omega), runS_succ, beat_cs]
    unfold warns
    rw [al0 i hi, Bool.not_false, Bool.and_true]
  refine firstB_at _ _ ?_ fun i hi => ?_
  · rw [at' _ (by omega), show h.r.toNat - 1 + 1 = h.r.toNat by omega, top]
  · rw [at' i (by omega), low (i + 1) (by omega)]
/-- counters that stay below the line but for those of S: no warning -/
theorem quiet {h : Hs} {S : List Nat} (lt : S.length < h.n) (rows : List (List Int)) (s : Ps) (lc : s.cs.length = h.l.count true) (g : ∀ i, i < rows.length → ∀ j, j < h.l.count true → j ∉ S → (((runS h s (rows.take (i + 1))).cs.getD j 0 : Nat) : Int) < h.r) : firstW h s rows = none := by
  refine firstB_no _ fun b m => ?_
  obtain ⟨i, hi, rfl⟩ := List.getElem_of_mem m
  rw [run_len] at hi
  have e : rows[i]? = some rows[i] := List.getElem?_eq_getElem hi
  have a := run_at (h := h) (s := s) e
  rw [List.getElem?_eq_getElem (by rw [run_len]; exact hi)] at a
  rw [Option.some.inj a]
  unfold warns
  have := alarm_no (h := h) (cs := (runS h s (rows.take (i + 1))).cs) S (runS_len _ _ lc) lt fun j hj z => Decidable.byContradiction fun n => by
    have := g i hi j hj n
    omega
  rw [← run_take e, beat_cs] at this
  rw [this]
  rfl
end
end K52

namespace K52
open PySem L2 Wm TL Dv Rm Lo
section
variable {P : Program} {w : World} {K : PySem.W.Frag} {mg : Str → Option Value} {base : Heap}
theorem cnt_step {h : Hs} {s : Ps} {rows : List (List Int)} {i j : Nat} {ms : List Int} (e : rows[i]? = some ms) (hj : j < h.l.count true) : (runS h s (rows.take (i + 1))).cs.getD j 0 = if j ∈ heardL h.l (opn h.l s.fs) ∧ h.m < ms.getD j 0 then (runS h s (rows.take i)).cs.getD j 0 + 1 else 0 := by
  rw [← run_take e, beat_cs, step_get hj, runS_fs]
theorem cnt_zero {h : Hs} {s : Ps} {rows : List (List Int)} {i j : Nat} {ms : List Int} (e : rows[i]? = some ms) (hj : j < h.l.count true) (lo : ¬ h.m < ms.getD j 0) : (runS h s (rows.take (i + 1))).cs.getD j 0 = 0 := by
  rw [cnt_step e hj, if_neg fun z => lo z.2]
theorem cnt_up {h : Hs} {s : Ps} {rows : List (List Int)} {i j : Nat} {ms : List Int} (e : rows[i]? = some ms) (hj : j < h.l.count true) : (runS h s (rows.take (i + 1))).cs.getD j 0 ≤ (runS h s (rows.take i)).cs.getD j 0 + 1 := by
  rw [cnt_step e hj]
  split
  · exact Nat.le_refl _
  · exact Nat.zero_le _
/-- the rows that warn, one raised level put at the mark in one of them, and a row of marks -/
def brokenR (h : Hs) (fs : List Ft) (z k0 : Nat) : List (List Int) := (List.replicate h.r.toNat (falseL h fs)).set z ((falseL h fs).set k0 h.m) ++ [List.replicate (h.l.count true) h.m]
theorem broken_at {h : Hs} {fs : List Ft} {z k0 i : Nat} (hi : i < h.r.toNat) : (brokenR h fs z k0)[i]? = some (if i = z then (falseL h fs).set k0 h.m else falseL h fs) := by
  unfold brokenR
  rw [List.getElem?_append_left (by rw [List.length_set, List.length_replicate]; exact hi), List.getElem?_set]
  by_cases c : z = i
  · rw [if_pos c, if_pos c.symm, if_pos (by rw [List.length_replicate]; omega)]
  · rw [if_neg c, if_neg fun e => c e.symm, List.getElem?_replicate, if_pos hi]
theorem broken_last {h : Hs} {fs : List Ft} {z k0 : Nat} : (brokenR h fs z k0)[h.r.toNat]? = some (List.replicate (h.l.count true) h.m) := by
  unfold brokenR
  rw [List.getElem?_append_right (by rw [List.length_set, List.length_replicate]; exact Nat.le_refl _), List.length_set, List.length_replicate, Nat.sub_self]
  rfl
theorem broken_len {h : Hs} {fs : List Ft} {z k0 : Nat} : (brokenR h fs z k0).length = h.r.toNat + 1 := by
  unfold brokenR
  rw [List.length_append, List.length_set, List.length_replicate]
  rfl
theorem bar_low {h : Hs} {j : Nat} (hj : j < h.l.count true) : ¬ h.m < (List.replicate (h.l.count true) h.m).getD j 0 := by
  rw [List.getD_eq_getElem?_getD, List.getElem?_replicate, if_pos hj]
  show ¬ h.m < h.m
  omega
theorem set_get (xs : List Int) (k j : Nat) (v : Int) (hj : j < xs.length) : (xs.set k v).getD j 0 = if k = j then v else xs.getD j 0 := by
  rw [List.getD_eq_getElem?_getD, List.getElem?_set]
  by_cases c : k = j
  · rw [if_pos c, if_pos c, if_pos (by omega)]
    rfl
  · rw [if_neg c, if_neg c, List.getD_eq_getElem?_getD]
theorem broken_quiet {h : Hs} {fs : List Ft} {s : Ps} {z k0 : Nat} (ok : HsOk h) (ec : s.cs = List.replicate (h.l.count true) 0) (hz : z < h.r.toNat) (hk : k0 ∈ (heardL h.l (opn h.l fs)).take h.n) : firstW h s (brokenR h fs z k0) = none := by
  have r1 := ok.r1
  have n1 := ok.n1
  have lc : s.cs.length = h.l.count true := by rw [ec, List.length_replicate]
  have fl : (falseL h fs).length = h.l.count true := by unfold falseL; rw [List.length_map, List.length_range]
  have nd : ((heardL h.l (opn h.l fs)).take h.n).Nodup := ear_nd.sublist (List.take_sublist _ _)
  refine quiet (S := ((heardL h.l (opn h.l fs)).take h.n).erase k0) ?_ _ s lc fun i hi j hj n => ?_
  · rw [List.length_erase_of_mem hk, List.length_take]
    have : 0 < ((heardL h.l (opn h.l fs)).take h.n).length := List.length_pos_of_mem hk
    rw [List.length_take] at this
    omega
  rw [broken_len] at hi
  have row : ∀ {i : Nat}, i < h.r.toNat → ∃ ms, (brokenR h fs z k0)[i]? = some ms ∧ ms.getD j 0 = if i = z ∧ k0 = j then h.m else (falseL h fs).getD j 0 := fun {i} hi => by
    refine ⟨_, broken_at hi, ?_⟩
    by_cases c : i = z
    · rw [if_pos c, set_get _ _ _ _ (by rw [fl]; exact hj)]
      by_cases d : k0 = j
      · rw [if_pos d, if_pos ⟨c, d⟩]
      · rw [if_neg d, if_neg fun y => d y.2]
    · rw [if_neg c, if_neg fun y => c y.1]
  by_cases last : i = h.r.toNat
  · subst last
    rw [cnt_zero broken_last hj (bar_low hj)]
    omega
  have hi' : i < h.r.toNat := by omega
  by_cases c : j = k0
  · subst c
    have bound : ∀ i, i ≤ h.r.toNat → (runS h s ((brokenR h fs z j).take i)).cs.getD j 0 ≤ if i ≤ z then i else i - z - 1 := fun i => by
      induction i with
      | zero =>
        intro _
        show s.cs.getD j 0 ≤ _
        rw [ec, List.getD_eq_getElem?_getD, List.getElem?_replicate, if_pos hj]
        exact Nat.zero_le _
      | succ i ih =>
        intro hle
        have b := ih (by omega)
        obtain ⟨ms, e, v⟩ := row (i := i) (by omega)
        by_cases d : i = z
        · have := cnt_zero (s := s) e hj (by rw [v, if_pos ⟨d, rfl⟩]; omega)
          rw [this]
          exact Nat.zero_le _
        · have u := cnt_up (s := s) e hj
          split at b
          · rw [if_pos (by omega)]
            omega
          · rw [if_neg (by omega)]
            omega
    have b := bound (i + 1) (by omega)
    split at b <;> omega
  · have out : j ∉ (heardL h.l (opn h.l fs)).take h.n := fun m => n ((List.mem_erase_of_ne c).mpr m)
    obtain ⟨ms, e, v⟩ := row hi'
    rw [cnt_zero e hj (by
      rw [v, if_neg fun y => c y.2.symm, false_get hj, if_neg out]
      omega)]
    omega
end
end K52

namespace K52
open PySem L2 Wm TL Dv Rm Lo
section
variable {P : Program} {w : World} {K : PySem.W.Frag} {mg : Str → Option Value} {base : Heap}
theorem fw_any {C HC PC CF CV : Addr} {H : Hp} {p bts fq : Addr} {h : Hs} {rs : List (List Int)} {fs : List Ft} {Q : VK} {E : XK} {t : Bool} {xs : List V} (hA : HouseAt K C HC H p h) (ok : HsOk h) (his : Kd.Is K t H bts xs) (lx : xs.length = rs.length) (l100 : rs.length ≤ 100)
    (rows : ∀ (i : Nat) x ms, xs[i]? = some x → rs[i]? = some ms → ∃ a, x = .ref a ∧ LvIs K H a (h.l.count true) (.good ms)) (hF : FtsAt K H fq fs) (fok : FOk h.l.length fs)
    (k : ∀ H', Same H H' → Q (optV (firstW h (putsP h (freshP h) fs) rs)) H') : sp_first_warning K C HC PC CF CV [.ref p, .ref bts, .ref fq] H Q E := by
  refine ⟨p, bts, fq, h, rfl, hA, ok, .inr ⟨fs, rs, hF, fok, t, xs, [], by rw [List.append_nil]; exact his, lx, by rw [List.append_nil, lx]; exact l100, rows, ?_⟩⟩
  cases e : firstW h (putsP h (freshP h) fs) rs with
  | none =>
    rw [e] at k
    exact .inl ⟨rfl, rfl, k⟩
  | some j =>
    rw [e] at k
    exact .inr ⟨j, rfl, k⟩
/-- the rows of false_levels, as they stand -/
theorem told_rows {H : Hp} {w : Addr} {n : Nat} {row : List Int} (d : Dt K H (.ref w) (.tuple (List.replicate n (.tuple (row.map PyData.int))))) : ∃ xs, SqT K H w xs ∧ xs.length = n ∧ ∀ (i : Nat) x, xs[i]? = some x → ∃ a, x = .ref a ∧ SqT K H a (row.map V.int) := by
  cases d with
  | tup hw ds =>
    rename_i xs
    have l := ds.len
    rw [List.length_replicate] at l
    refine ⟨xs, hw, l, fun i x hx => ?_⟩
    have hi : i < xs.length := (List.getElem?_eq_some_iff.mp hx).1
    have gen : ∀ {xs : List V} {k : Nat}, Dts K H xs (List.replicate k (.tuple (row.map PyData.int))) → ∀ (i : Nat) x, xs[i]? = some x → Dt K H x (.tuple (row.map PyData.int)) := fun {xs} => by
      induction xs with
      | nil => intro k _ i x hx; cases hx
      | cons y ys ih =>
        intro k dd i x hx
        cases k with
        | zero => cases dd
        | succ k =>
          rw [List.replicate_succ] at dd
          cases dd with
          | cons a r =>
            cases i with
            | zero =>
              cases hx
              exact a
            | succ i => exact ih r i x hx
    have dx := gen ds i x hx
    cases dx with
    | tup ha dv =>
      rw [dts_int_inv dv] at ha
      exact ⟨_, rfl, ha⟩
theorem fresh_ear {h : Hs} {fs : List Ft} (df : ∀ f ∈ fs, f.2 ≤ h.l.length) : heardL h.l (opn h.l (putsP h (freshP h) fs).fs) = heardL h.l (opn h.l fs) := heard_congr fun f => by
  have := fold_mem h.l fs [] (fun f m => by cases m) df f
  show f ∈ fs.foldl (fun a f => norm h.l (a ++ [f])) [] ↔ _
  rw [this]
  exact ⟨fun z => z.elim (fun y => by cases y) id, .inr⟩
end
end K52

namespace K52
open PySem L2 Wm TL Dv Rm Lo
section
variable {P : Program} {w : World} {K : PySem.W.Frag} {mg : Str → Option Value} {base : Heap}
/-! ### one panel's deed leaves the other panel as it is -/
theorem Kt.fr {b p mm C dx : Addr} {n : Nat} {H H' : Hp} {fs : List (Str × V)} {ys : List V} (bag : Bg H b n) (hp : H p = some (.ins C dx fs)) (hm : H mm = some (.lst ys)) (e : Fr b p mm H H') : Kt K H H' := fun a xs q => by
  obtain ⟨zs, hb⟩ : ∃ zs, H b = some (.lst zs) := by
    obtain ⟨c, k, x, y, z, ns, hb, _⟩ := bag
    exact ⟨_, hb⟩
  have go : ∀ {u : HO}, H a = some u → (∀ C d f, u ≠ .ins C d f) → (∀ ys, u ≠ .lst ys) → H' a = some u := fun e1 k1 k2 =>
    e _ _ (fun z => by rw [z, hb] at e1; exact k2 _ (Option.some.inj e1).symm) (fun z => by rw [z, hp] at e1; exact k1 _ _ _ (Option.some.inj e1).symm) (fun z => by rw [z, hm] at e1; exact k2 _ (Option.some.inj e1).symm) e1
  rcases q with (q | ⟨ob, q⟩) | q
  · exact .inl (.inl (go q (fun _ _ _ z => by cases z) fun _ z => by cases z))
  · exact .inl (.inr ⟨ob, go q (fun _ _ _ z => by cases z) fun _ z => by cases z⟩)
  · exact .inr q
theorem HouseAt.fr {C HC PC : Addr} {b p mm dx hh : Addr} {n : Nat} {H H' : Hp} {fs : List (Str × V)} {ys : List V} {h : Hs} (x : HouseAt K C HC H hh h) (bag : Bg H b n) (hp : H p = some (.ins PC dx fs)) (no : ∀ m : Str, m ∉ panelF → fs.lookup m = none) (hm : H mm = some (.lst ys)) (e : Fr b p mm H H') : HouseAt K C HC H' hh h := by
  have kt : Kt K H H' := Kt.fr bag hp hm e
  obtain ⟨z1, z2⟩ := PRaw.ne (K := K) (C := C) (HC := HC) hp no
  obtain ⟨zs, hb⟩ : ∃ zs, H b = some (.lst zs) := by
    obtain ⟨c, k, x, y, z, ns, hb, _⟩ := bag
    exact ⟨_, hb⟩
  have n1 := z1 _ _ x
  obtain ⟨dh, fh, q, h1, l1, l2, l3, l4, l5, l6, l7, l8, r⟩ := x
  have n2 := z2 _ _ r
  obtain ⟨dq, fq, y, hq, m1, m2, m3, m4, t⟩ := r
  have go : ∀ {a C d : Addr} {f : List (Str × V)}, a ≠ p → H a = some (.ins C d f) → H' a = some (.ins C d f) := fun np h => e _ _ (fun z => by rw [z, hb] at h; cases h) np (fun z => by rw [z, hm] at h; cases h) h
  exact ⟨dh, fh, q, go n1 h1, l1, l2, l3, l4, l5, l6, l7, l8, dq, fq, y, go n2 hq, m1, m2, m3, m4, t.k kt⟩
theorem Pair.frame {C HC PC : Addr} {b p mm p2 mm2 : Addr} {n : Nat} {H H' : Hp} {h h0 : Hs} {s s0 : Ps} {M M0 : List Ft} (x : Pair K C HC PC H p2 mm2 h s M) (y : Pair K C HC PC H p mm h0 s0 M0) (bag : Bg H b n) (np : p2 ≠ p) (nm : mm2 ≠ mm) (e : Fr b p mm H H') : Pair K C HC PC H' p2 mm2 h s M := by
  obtain ⟨g0, _, _, _, ⟨dx0, fs0, hh0, hp0, lf0, lk0, gh0, hA0, no0⟩, _⟩ := y.pan
  have no : ∀ m : Str, m ∉ panelF → fs0.lookup m = none := fun m i => (lk0 m).trans (no0 m i)
  obtain ⟨f0, c0, xs0, hm0, hf0, dxs0, hc0⟩ := y.mod
  have kt : Kt K H H' := Kt.fr bag hp0 hm0 e
  obtain ⟨zs, hb⟩ : ∃ zs, H b = some (.lst zs) := by
    obtain ⟨c, k, x, y, z, ns, hb, _⟩ := bag
    exact ⟨_, hb⟩
  obtain ⟨pan, md, nrm, nd, dom⟩ := x
  refine ⟨?_, ?_, nrm, nd, dom⟩
  · obtain ⟨g, u, v, w, ⟨dx, fs, hh, hp, lf, lk, gh, hA, nn⟩, a1, a2, a3, a4, a5, a6, a7, a8, a9⟩ := pan
    exact ⟨g, u, v, w, ⟨dx, fs, hh, e _ _ (fun z => by rw [z, hb] at hp; cases hp) np (fun z => by rw [z, hm0] at hp; cases hp) hp, lf, lk, gh, hA.fr bag hp0 no hm0 e, nn⟩, a1, a2, a3, a4, a5.k kt, SqT.k a6 kt, SqT.k a7 kt, a8, a9⟩
  · obtain ⟨f, c, xs, hm, hf, dxs, hc⟩ := md
    have ins : ∀ {a : Addr} {ws : List V}, H a = some (.lst ws) → a ≠ p := fun h z => by rw [z, hp0] at h; cases h
    exact ⟨f, c, xs, e _ _ (bg_no bag hm fun _ _ _ _ _ z => by cases z) (ins hm) nm hm, e _ _ (bg_no bag hf (fts_no dxs)) (ins hf) (fts_ne hm0 hf dxs) hf, dxs.k kt, e _ _ (bg_no bag hc nats_no) (ins hc) (nV_ne hm0 hc) hc⟩
theorem Pair.house {C HC PC : Addr} {b p mm hh : Addr} {n : Nat} {H H' : Hp} {h h0 : Hs} {s0 : Ps} {M0 : List Ft} (x : HouseAt K C HC H hh h) (y : Pair K C HC PC H p mm h0 s0 M0) (bag : Bg H b n) (e : Fr b p mm H H') : HouseAt K C HC H' hh h := by
  obtain ⟨g0, _, _, _, ⟨dx0, fs0, hh0, hp0, lf0, lk0, gh0, hA0, no0⟩, _⟩ := y.pan
  obtain ⟨f0, c0, xs0, hm0, hf0, dxs0, hc0⟩ := y.mod
  exact x.fr bag hp0 (fun m i => (lk0 m).trans (no0 m i)) hm0 e
theorem Pair.kt {C HC PC : Addr} {b p mm : Addr} {n : Nat} {H H' : Hp} {h0 : Hs} {s0 : Ps} {M0 : List Ft} (y : Pair K C HC PC H p mm h0 s0 M0) (bag : Bg H b n) (e : Fr b p mm H H') : Kt K H H' := by
  obtain ⟨g0, _, _, _, ⟨dx0, fs0, hh0, hp0, lf0, lk0, gh0, hA0, no0⟩, _⟩ := y.pan
  obtain ⟨f0, c0, xs0, hm0, hf0, dxs0, hc0⟩ := y.mod
  exact Kt.fr bag hp0 hm0 e
end
end K52

namespace K52
open PySem L2 Wm TL Dv Rm Lo
section
variable {P : Program} {w : World} {K : PySem.W.Frag} {mg : Str → Option Value} {base : Heap}
theorem ok_least (T : Txt K mg) : FnOk P w K mg base CX0 10 T.a_least T.d_least ["_law_state", "_law_house", "_law_plan"] (sp_least K T.C T.HC T.PC) := by
  refine T.F_least.ok sc_least (fun vs H Q E h => ?_) (fun cdv A outer s H vs Q E hr h => ?_)
  · obtain ⟨b, p, u, n, h, rfl, _⟩ := h
    rfl
  · obtain ⟨b, p, u, n, h, rfl, hbag, hn, hu, ok, hA, kk⟩ := h
    have hl := ok.ri.len
    have cl : h.l.count true ≤ h.l.length := List.count_le_length
    have n1 := ok.n1
    have nl := ok.nl
    have r1' := ok.r1
    have r8' := ok.r8
    refine ⟨_, (pss_cons (ps_asg (pv 2) (pg_tup rfl (pgs_cons (pg_name (i := 3) sc_least.nd rfl (Or.inl rfl)) (pgs_cons (pg_name (i := 4) sc_least.nd rfl (Or.inr rfl)) (pgs_cons (pg_name (i := 5) sc_least.nd rfl (Or.inl rfl)) (pgs_cons (pg_name (i := 6) sc_least.nd rfl (Or.inr rfl)) pgs_nil))))))
      (pss_cons (ps_set (i := 7) sc_least.nd rfl (Or.inl rfl) (pe_call (ok_faults T) (hr.mono (by decide)) (by rfl) T.g_faults T.F_faults.kp T.b_faults .nil pass0 (pa_cons (pv 0) (pa_cons (pv 3) (pa_cons (pe_call (ok_draw T) (hr.mono (by decide)) (by rfl) T.g_draw T.F_draw.kp T.b_draw .nil pass0 (pa_cons (pv 0) (pa_cons pe_int pa_nil))) pa_nil)))))
      (pss_cons (ps_set (i := 8) sc_least.nd rfl (Or.inr rfl) (pe_call (ok_heard T) (hr.mono (by decide)) (by rfl) T.g_heard T.F_heard.kp T.b_heard .nil pass0 (pa_cons (pv 3) (pa_cons (pv 7) pa_nil))))
      (pss_cons (ps_set (i := 9) sc_least.nd rfl (Or.inl rfl) (pe_call (ok_false_levels T) (hr.mono (by decide)) (by rfl) T.g_false_levels T.F_false_levels.kp T.b_false_levels .nil Mk1.passF (pa_cons (pv 1) (pa_cons (pe_callTy call_list_of (by rfl) T.z_list (by decide +kernel) (pa_cons (pv 7) pa_nil)) pa_nil))))
      (pss_cons (ps_if (pt_cmpR op_lt (pe_callB call_len_seq (by rfl) T.z_len PySem.boot_len (pa_cons (pv 8) pa_nil)) (pv 6) (nomark _))
        (pss_one (ps_ret (pe_cmpR op_isN (pv 9) pe_non (nomark _))))
        pss_nil)
      (pss_cons (ps_set (i := 10) sc_least.nd rfl (Or.inl rfl) (pe_callTy call_tuple_of (by rfl) T.z_tuple (by decide +kernel) (pa_cons (pe_lc (own := [("_law_k", 11)]) (g := gName 11) (tt := tYes) rfl sc_least.nd (pi_range1 (by rfl) T.z_range (pa_cons (pe_fld (pv 1) rfl) pa_nil)) (blkOk_by (own := [("_law_k", 11)]) (N := nm_least) (sc := (defScope s_least)) (by decide +kernel)) (fun _ _ _ _ _ => pg_name (i := 11) sc_least.nd rfl (Or.inl rfl)) (fun _ _ _ _ _ => pts_nil) (fun _ _ _ _ _ => (pe_ifExp (pt_cmpR (show OpR _ _ (rIn K false) from op_in_seq) (pv 11) (pe_slice (show SlR _ (rSlA K) from sl_tupA) (pv 8) po_none (po_some (pv 6))) rfl) (pe_op op_add (pv 4) pe_int) (pv 4)))) pa_nil)))
      (pss_cons (ps_if (PW.pt (pw_or (pt_cmpR (op_neD hr.units) (pv 9) (pe_op Tu1.op_repB (pe_tup (pa_cons (pv 10) pa_nil)) (pv 5)) (nomark _)) (pw_or1 (pt_cmpR op_ne (pe_call (ok_first_warning T) (hr.mono (by decide)) (by rfl) T.g_first_warning T.F_first_warning.kp T.b_first_warning .nil Mk1.passF (pa_cons (pv 1) (pa_cons (pv 9) (pa_cons (pv 7) pa_nil)))) (pe_op op_sub (pv 5) pe_int) (nomark _)))))
        (pss_one (ps_ret pe_bl))
        pss_nil)
      (pss_cons (ps_setLc (i := 12) (own := [("_law_levels_here", 13)]) (g := gName 13) (tt := tYes) rfl sc_least.nd rfl rfl (sw_true rfl rfl rfl (by decide +kernel)) (Kd.pi_seq (pv 9)) (blkOk_by (own := [("_law_levels_here", 13)]) (N := nm_least) (sc := (defScope s_least)) (by decide +kernel)) (fun _ _ _ _ _ => pg_name (i := 13) sc_least.nd rfl (Or.inl rfl)) (fun _ _ _ _ _ => pts_nil) (fun _ _ _ _ _ => (pe_callTy (show CallR _ _ (rLst K) from call_list_of) (by rfl) T.z_list (by decide +kernel) (pa_cons (pv 13) pa_nil))))
      (pss_cons (ps_set (i := 14) sc_least.nd rfl (Or.inl rfl) (pe_call (ok_draw T) (hr.mono (by decide)) (by rfl) T.g_draw T.F_draw.kp T.b_draw .nil pass0 (pa_cons (pv 0) (pa_cons (pv 5) pa_nil))))
      (pss_cons (ps_set (i := 13) sc_least.nd rfl (Or.inl rfl) (pe_ix ix_list (pv 12) (pv 14) (fun _ _ => rfl)))
      (pss_cons (ps_asg (pv 4) (pg_sub (pv 13) (pe_ix ix_tup (pv 8) (pe_call (ok_draw T) (hr.mono (by decide)) (by rfl) T.g_draw T.F_draw.kp T.b_draw .nil pass0 (pa_cons (pv 0) (pa_cons (pv 6) pa_nil))) (fun _ _ => rfl)) set_list))
      (pss_cons (ps_set (i := 12) sc_least.nd rfl (Or.inl rfl) (pe_op op_cat (pv 12) (pe_lst (pa_cons (pe_op op_rep (pe_lst (pa_cons (pv 4) pa_nil)) (pe_fld (pv 1) rfl)) pa_nil))))
      (pss_cons (ps_if (pt_cmpR op_notN (pe_call (ok_first_warning T) (hr.mono (by decide)) (by rfl) T.g_first_warning T.F_first_warning.kp T.b_first_warning .nil Mk1.passF (pa_cons (pv 1) (pa_cons (pv 12) (pa_cons (pv 7) pa_nil)))) pe_non (nomark _))
        (pss_one (ps_ret pe_bl))
        pss_nil)
      (pss_one (ps_ret (pe_cmpR op_isN (pe_call (ok_first_warning T) (hr.mono (by decide)) (by rfl) T.g_first_warning T.F_first_warning.kp T.b_first_warning .nil Mk1.passF (pa_cons (pv 1) (pa_cons (pv 12) (pa_cons (pe_call (ok_faults T) (hr.mono (by decide)) (by rfl) T.g_faults T.F_faults.kp T.b_faults .nil pass0 (pa_cons (pv 0) (pa_cons (pv 3) (pa_cons pe_int pa_nil)))) pa_nil)))) pe_non (nomark _))))))))))))))))), ?_⟩
    refine ⟨_, rfl, u, _, rfl, hu, rfl, _, _, rfl, _, _, rfl, _, _, rfl, _, _, rfl, rfl, ?_⟩
    refine ⟨_, rfl, _, rfl, _, rfl, b, n, 3, rfl, by decide, by decide, hbag, by omega, fun A1 d1 d10 d11 bag1 but1 => ?_⟩
    obtain ⟨k1, rfl⟩ : ∃ k : Nat, d1 = ((k : Nat) : Int) := ⟨d1.toNat, by omega⟩
    have k13 : k1 ≤ 2 := by omega
    refine ⟨b, n + 1, k1, h.l, rfl, by omega, hl, bag1, by omega, fun A2 q F zs nq lF dF hq dzs bag2 but2 => ?_⟩
    have but02 := but1.trans but2
    have bag2 := bag2.mono (m := n + 5) (by omega)
    have fokF : FOk h.l.length F := ⟨by omega, dF⟩
    have qb : q ≠ b := hbag.off (bt_fresh (H := H) but1 bag1 nq)
    have hA2 := hA.bt hbag but02
    have kk : ∀ H', Bg H' b (n + 100) → Bt b A2 H' → Q (.bl true) H' := fun H' g e => kk H' g (but02.trans e)
    refine ⟨_, rfl, _, rfl, q, h.l, F, rfl, hl, ⟨false, zs, SqL.of hq, dzs⟩, fokF, fun A3 r s3 nr hr => ?_⟩
    refine ⟨_, rfl, _, rfl, q, _, rfl, .inl (SqL.of (s3 _ _ hq)), fun L hL => ?_⟩
    generalize x4 : upd A3 L _ = A4
    obtain ⟨s4, e4⟩ := got x4 hL
    have s24 := s3.trans s4
    have hr4 := s4 _ _ hr
    have lr : (nV (heardL h.l (opn h.l F))).length = (heardL h.l (opn h.l F)).length := nV_len _
    refine ⟨p, L, h, rfl, hA2.keep s24, ok, .inr ⟨F, ⟨false, zs, SqL.of e4, dzs.k (Kt.same s24)⟩, fokF, ?_⟩⟩
    by_cases ge : h.n ≤ (heardL h.l (opn h.l F)).length
    case neg =>
      refine .inl ⟨by omega, fun A5 s5 => ?_⟩
      refine ⟨_, rfl, r, _, rfl, .inr (SqT.of (s5 _ _ hr4)), _, rfl, _, _, rfl, rfl, _, rfl, iteY (decide_eq_true (by rw [lr]; omega)) ?_⟩
      have s25 := s24.trans s5
      exact ⟨_, rfl, rfl, kk _ ((bag2.keep s25).mono (by omega)) (Bt.of s25)⟩
    refine .inr ⟨ge, fun A5 w s5 dw => ?_⟩
    have s25 := s24.trans s5
    have hr5 := s5 _ _ hr4
    refine ⟨_, rfl, r, _, rfl, .inr (SqT.of hr5), _, rfl, _, _, rfl, rfl, _, rfl, iteN (decide_eq_false (by rw [lr]; omega)) ?_⟩
    have hA5 := hA2.keep s25
    obtain ⟨dh, fh, rq, hhp, l1, l2, l3, l4, l5, l6, l7, l8, rr⟩ := id hA5
    refine ⟨_, rfl, p, T.HC, dh, fh, _, rfl, hhp, T.clHC, T.nSk, l7, _, rfl, by omega, by omega, fun D hD => ?_⟩
    rw [Int.toNat_natCast]
    refine Lm.lc_any walk_range (fun i y _ => ((falseL h F).map V.int)[i]? = some y) (fun _ _ _ _ _ e _ _ => e) (fun i A x A' y => by obtain ⟨rfl, _⟩ := y; exact Same.refl _) hD (by omega) (fun A s => trivial) (fun i x A A' hi sm _ hY Q2 Z q2 => ?_) (fun A ws sm hws lw hR => ?_)
    · obtain ⟨rfl, rfl⟩ := hY
      have ez : V.int (0 + ((i : Nat) : Int)) = V.int ((i : Nat) : Int) := by rw [Int.zero_add]
      show gName 11 (V.int (0 + ((i : Nat) : Int))) _ _ _
      rw [ez]
      have at' : ((falseL h F).map V.int)[i]? = some (.int (if i ∈ (heardL h.l (opn h.l F)).take h.n then h.m + 1 else h.m)) := by
        unfold falseL
        rw [List.getElem?_map, List.getElem?_map, List.getElem?_range hi]
        rfl
      have hr6 := sm _ _ hr5
      refine ⟨rfl, yesT ?_⟩
      refine ⟨_, rfl, _, rfl, _, rfl, _, rfl, r, _, rfl, SqT.of hr6, fun wh => ?_, fun _ uu huu => ?_⟩
      · have e2 := wh.2
        rw [HT.sIx_nat, lr] at e2
        have tk : (heardL h.l (opn h.l F)).take h.n = heardL h.l (opn h.l F) := List.take_of_length_le (by omega)
        have hr7 := hr6
        rw [← tk] at hr7
        refine ⟨r, _, rfl, .inr (SqT.of hr7), rfl, nV_flat _, ?_⟩
        rw [show (if false = true then !inV (V.int ((i : Nat) : Int)) (nV ((heardL h.l (opn h.l F)).take h.n)) else inV (V.int ((i : Nat) : Int)) (nV ((heardL h.l (opn h.l F)).take h.n))) = decide (i ∈ (heardL h.l (opn h.l F)).take h.n) from inV_nats _ _]
        by_cases c : i ∈ (heardL h.l (opn h.l F)).take h.n
        · rw [if_pos c] at at'
          rw [decide_eq_true c]
          exact ⟨_, rfl, iteT ⟨_, rfl, _, _, rfl, rfl, q2 _ _ (Same.refl _) at'⟩⟩
        · rw [if_neg c] at at'
          rw [decide_eq_false c]
          exact ⟨_, rfl, iteF ⟨_, rfl, q2 _ _ (Same.refl _) at'⟩⟩
      · have e9 : (upd A' uu (.tup (cutV (nV (heardL h.l (opn h.l F))) none (some ((h.n : Nat) : Int))))) uu = some (.tup (nV ((heardL h.l (opn h.l F)).take h.n))) := by
          rw [upd_same, cut_to _ _ (by omega), show (nV (heardL h.l (opn h.l F))).take h.n = nV ((heardL h.l (opn h.l F)).take h.n) from (List.map_take ..).symm]
        refine ⟨uu, _, rfl, .inr (SqT.of e9), rfl, nV_flat _, ?_⟩
        rw [show (if false = true then !inV (V.int ((i : Nat) : Int)) (nV ((heardL h.l (opn h.l F)).take h.n)) else inV (V.int ((i : Nat) : Int)) (nV ((heardL h.l (opn h.l F)).take h.n))) = decide (i ∈ (heardL h.l (opn h.l F)).take h.n) from inV_nats _ _]
        by_cases c : i ∈ (heardL h.l (opn h.l F)).take h.n
        · rw [if_pos c] at at'
          rw [decide_eq_true c]
          exact ⟨_, rfl, iteT ⟨_, rfl, _, _, rfl, rfl, q2 _ _ (same_new huu) at'⟩⟩
        · rw [if_neg c] at at'
          rw [decide_eq_false c]
          exact ⟨_, rfl, iteF ⟨_, rfl, q2 _ _ (same_new huu) at'⟩⟩
    have fl : (falseL h F).length = h.l.count true := by unfold falseL; rw [List.length_map, List.length_range]
    have ey : ws = (falseL h F).map V.int := Lm.list_is (by rw [List.length_map]; omega) fun i y e => hR i y e
    rw [ey] at hws
    refine ⟨D, _, rfl, .inl ⟨SqL.of hws, fun v hv => ?_⟩⟩
    generalize x6 : upd A v _ = A6
    obtain ⟨s6, e6⟩ := got x6 hv
    have s56 := sm.trans s6
    have s26 := s25.trans s56
    have dv : Dt K A6 (.ref v) (.tuple ((falseL h F).map PyData.int)) := dt_tup e6 (int_dts _)
    have hA6 := hA2.keep s26
    have dw6 := dw.k (Kt.same s56)
    have hq6 := s26 _ _ hq
    have dz6 := dzs.k (Kt.same s26)
    have bag6 := bag2.keep s26
    have hr6 := s56 _ _ hr5
    have kk : ∀ H', Bg H' b (n + 100) → Bt b A6 H' → Q (.bl true) H' := fun H' g e => kk H' g ((Bt.of s26).trans e)
    clear dw hr5 hr4 hr hA5 hhp
    refine ⟨_, rfl, _, rfl, small_len (by show 1 ≤ 100000; decide), fun t7 ht7 => ?_⟩
    generalize x7 : upd A6 t7 _ = A7
    obtain ⟨s7, e7⟩ := got x7 ht7
    refine ⟨_, rfl, t7, h.r, [V.ref v], rfl, rfl, SqT.of e7, by simp, r1', by omega, by show 1 ≤ 1000; decide, fun w8 A8 s8 hw8 => ?_⟩
    have s68 := s7.trans s8
    have dv8 : Dt K A8 (.ref v) (.tuple ((falseL h F).map PyData.int)) := dv.k (Kt.same s68)
    have dw8 := dw6.k (Kt.same s68)
    refine ne_like dw8.toDp (.tup hw8 (rep_dps dv8 _)) (fine_rep (fine_ints (n := 0) _)) (by decide) ⟨_, rfl, ?_⟩
    obtain ⟨xs, hwx, lx, rows⟩ := told_rows dw8
    have hA8 := hA6.keep s68
    have fl' : (falseL h F).length = h.l.count true := fl
    refine iteF ⟨_, rfl, _, rfl, _, rfl, ?_⟩
    simp only [tNil]
    refine fw_any (rs := List.replicate h.r.toNat (falseL h F)) (fs := F) (t := true) hA8 ok hwx (by rw [lx, List.length_replicate]) (by rw [List.length_replicate]; omega) (fun i x ms hx hm => ?_) ⟨false, zs, SqL.of (s68 _ _ hq6), dz6.k (Kt.same s68)⟩ fokF fun A9 s9 => ?_
    · obtain ⟨a, ex, ha⟩ := rows i x hx
      obtain ⟨_, em⟩ := List.getElem?_eq_some_iff.mp hm
      rw [List.getElem_replicate] at em
      subst em
      exact ⟨a, ex, .good (t := true) ha fl'⟩
    rw [least_warns (h := h) (fs := F) (s := putsP h (freshP h) F) ok rfl rfl (fresh_ear dF) ge]
    refine ⟨_, rfl, _, _, rfl, rfl, rfl, _, rfl, ?_⟩
    rw [decide_eq_true (show optV (some (h.r.toNat - 1)) = V.int (h.r - 1) by show V.int (((h.r.toNat - 1 : Nat)) : Int) = _; congr 1; omega)]
    refine iteF ?_
    have hw9 := sameT s9 hwx
    refine ⟨_, rfl, w, _, true, rfl, hw9, fun J GG wk hG => fun D2 hD2 => ?_⟩
    refine Lm.lc_apart wk (fun i y H' => ∃ a, y = V.ref a ∧ a ≠ D2 ∧ A9 a = none ∧ H' a = some (.lst ((falseL h F).map V.int))) (fun x y => x ≠ y) (fun i y H1 H2 ws g _ bar => ?_) (fun i A x A' y => by obtain ⟨rfl, _⟩ := y; exact Same.refl _) hD2 (by omega) (fun A s => hG _ (sameT s hw9)) (fun i x G G' hi sm3 ex hY ys hys Q2 Z q2 => ?_) (fun A10 ls s10 hls ll hR2 apart => ?_)
    · obtain ⟨a, rfl, ne, fr, ha⟩ := g
      exact ⟨a, rfl, ne, fr, bar _ _ ne ha⟩
    · obtain ⟨rfl, hx⟩ := hY
      obtain ⟨wsx, hDx⟩ := ex
      obtain ⟨a, rfl, ha⟩ := rows i x hx
      refine ⟨rfl, yesT ⟨_, rfl, a, _, rfl, .inr (sameT (s9.trans sm3) ha), fun l hl2 => q2 _ _ (same_new hl2) ⟨l, rfl, (ne_of_none hDx hl2).symm, sm3.free hl2, upd_same⟩ fun z mz e => ?_⟩⟩
      obtain ⟨j, hj, ez⟩ := List.getElem_of_mem mz
      obtain ⟨a2, e2, _, _, ha2⟩ := hys j z (by rw [List.getElem?_eq_getElem hj, ez])
      rw [e2] at e
      cases e
      rw [hl2] at ha2
      cases ha2
    have s610 := (s68.trans s9).trans s10
    have bag10 := bag6.keep s610
    have D2b : D2 ≠ b := (bag6.keep (s68.trans s9)).off hD2
    refine ⟨_, rfl, _, rfl, b, n + 5, h.r, rfl, by omega, by omega, bag10, by omega, fun A11 d11 f0 f1 bag11 but11 => ?_⟩
    obtain ⟨kz, rfl⟩ : ∃ k : Nat, d11 = ((k : Nat) : Int) := ⟨d11.toNat, by omega⟩
    have kzl : kz < h.r.toNat := by omega
    have hD11 := but11.keep _ _ D2b hls
    obtain ⟨a0, ea0, na0, fa0, ha0⟩ := hR2 kz ls[kz] (List.getElem?_eq_getElem (by omega))
    have at0 : ls[kz]? = some (V.ref a0) := by rw [List.getElem?_eq_getElem (by omega), ea0]
    refine ⟨_, rfl, _, rfl, D2, _, _, _, rfl, rfl, SqL.of hD11, atI_nat at0, ?_⟩
    have but6 : Bt b A6 A11 := (Bt.of s610).trans but11
    have rowb : ∀ {B : Hp} {k : Nat} {a : Addr}, Bg B b k → B a = some (.lst ((falseL h F).map V.int)) → a ≠ b := fun g e => bg_no g e fun _ _ _ _ _ z => by
      generalize falseL h F = ms at z
      cases ms <;> cases z
    refine ⟨_, rfl, _, rfl, _, rfl, _, rfl, _, rfl, b, n + 6, ((h.n : Nat) : Int), rfl, by omega, by omega, bag11, by omega, fun A12 d12 g0 g1 bag12 but12 => ?_⟩
    obtain ⟨kn, rfl⟩ : ∃ k : Nat, d12 = ((k : Nat) : Int) := ⟨d12.toNat, by omega⟩
    have knl : kn < (heardL h.l (opn h.l F)).length := by omega
    have rb : r ≠ b := fun z => by
      obtain ⟨c, k, x, y, zz, ns, hb, _⟩ := bag6
      rw [z, hb] at hr6
      cases hr6
    have bag9 := bag6.keep (s68.trans s9)
    have bt912 : Bt b A9 A12 := ((Bt.of s10).trans but11).trans but12
    have hr12 := (but6.trans but12).keep _ _ rb hr6
    have ha12 := (but11.trans but12).keep _ _ (rowb bag10 ha0) ha0
    generalize ek : (heardL h.l (opn h.l F)).getD kn 0 = k0
    have mk : k0 ∈ (heardL h.l (opn h.l F)).take h.n := by
      rw [← ek, List.getD_eq_getElem?_getD, List.getElem?_eq_getElem knl]
      exact List.mem_take_iff_getElem.mpr ⟨kn, by omega, rfl⟩
    have kc : k0 < h.l.count true := ear_lt (List.mem_of_mem_take mk)
    have ge0 := nV_get knl
    rw [ek] at ge0
    refine ⟨r, _, _, _, rfl, rfl, SqT.of hr12, atI_nat ge0, ?_⟩
    refine ⟨a0, _, _, k0, rfl, rfl, ha12, ?_, ?_⟩
    · unfold ixN
      rw [List.length_map, if_pos (by omega), if_pos (by omega), Int.toNat_natCast]
    have bt13 : Bt b A9 (upd A12 a0 (.lst (((falseL h F).map V.int).set k0 (V.int h.m)))) := bt912.put fa0
    have bag13 : Bg (upd A12 a0 (.lst (((falseL h F).map V.int).set k0 (V.int h.m)))) b (n + 7) := (bag9.put fa0 bt912 bag12)
    have hD13 : (upd A12 a0 (.lst (((falseL h F).map V.int).set k0 (V.int h.m)))) D2 = some (.lst ls) := (upd_ne (Ne.symm na0)).trans (but12.keep _ _ D2b hD11)
    have rows13 : ∀ (i : Nat) x, ls[i]? = some x → ∃ a, x = V.ref a ∧ (upd A12 a0 (.lst (((falseL h F).map V.int).set k0 (V.int h.m)))) a = some (.lst ((if i = kz then (falseL h F).set k0 h.m else falseL h F).map V.int)) := fun i x hx => by
      by_cases c : i = kz
      · subst c
        rw [at0] at hx
        cases hx
        refine ⟨a0, rfl, ?_⟩
        rw [if_pos rfl, upd_same, List.map_set]
      · obtain ⟨a, rfl, na, fa, ha⟩ := hR2 i x hx
        refine ⟨a, rfl, ?_⟩
        have ne : a ≠ a0 := fun z => by
          subst z
          have hi := (List.getElem?_eq_some_iff.mp hx).1
          have hj := (List.getElem?_eq_some_iff.mp at0).1
          have e1 := (List.getElem?_eq_some_iff.mp hx).2
          have e2 := (List.getElem?_eq_some_iff.mp at0).2
          rcases Nat.lt_or_gt_of_ne c with g | g
          · exact (List.pairwise_iff_getElem.mp apart i kz hi hj g) (e1.trans e2.symm)
          · exact (List.pairwise_iff_getElem.mp apart kz i hj hi g) (e2.trans e1.symm)
        rw [if_neg c, upd_ne ne]
        exact (but11.trans but12).keep _ _ (rowb bag10 ha) ha
    generalize upd A12 a0 _ = A13 at *
    have hA13 := (hA6.keep (s68.trans s9)).bt bag9 bt13
    have hq13 := bt13.keep _ _ qb ((s68.trans s9) _ _ hq6)
    have dz13 := (dz6.k (Kt.same (s68.trans s9))).k (kt_bt bag9 bt13)
    obtain ⟨dh3, fh3, rq3, hhp3, m1, m2, m3, m4, m5, m6, m7, m8, rr3⟩ := id hA13
    refine ⟨_, rfl, _, rfl, small_len (by show 1 ≤ 100000; decide), fun L3 h3 => ?_⟩
    generalize x14 : upd A13 L3 _ = A14
    obtain ⟨s14, e14⟩ := got x14 h3
    refine ⟨_, rfl, p, T.HC, dh3, fh3, _, rfl, s14 _ _ hhp3, T.clHC, T.nSk, m7, L3, _, _, rfl, rfl, e14, by omega, by omega, by rw [Int.toNat_natCast]; exact small_len (by show 1 * _ ≤ 100000; omega), fun L4 h4 => ?_⟩
    rw [Int.toNat_natCast, flat_rep]
    generalize x15 : upd A14 L4 _ = A15
    obtain ⟨s15, e15⟩ := got x15 h4
    refine ⟨small_len (by show 1 ≤ 100000; decide), fun L5 h5 => ?_⟩
    generalize x16 : upd A15 L5 _ = A16
    obtain ⟨s16, e16⟩ := got x16 h5
    have s36 := (s14.trans s15).trans s16
    refine ⟨D2, L5, _, _, rfl, rfl, s36 _ _ hD13, e16, small_len (by show _ + 1 ≤ 100000; omega), fun D4 h6 => ?_⟩
    generalize x17 : upd A16 D4 _ = A17
    obtain ⟨s17, e17⟩ := got x17 h6
    have s37 := s36.trans s17
    have lls : ls.length = h.r.toNat := ll.trans lx
    have rowsC : ∀ (i : Nat) x ms, (ls ++ [V.ref L4])[i]? = some x → (brokenR h F kz k0)[i]? = some ms → ∃ a, x = V.ref a ∧ A17 a = some (.lst (ms.map V.int)) ∧ ms.length = h.l.count true := fun i x ms hx hm => by
      by_cases c : i < h.r.toNat
      · rw [List.getElem?_append_left (by omega)] at hx
        rw [broken_at c] at hm
        cases hm
        obtain ⟨a, rfl, ha⟩ := rows13 i x hx
        refine ⟨a, rfl, s37 _ _ ha, ?_⟩
        split
        · rw [List.length_set, fl']
        · exact fl'
      · rw [List.getElem?_append_right (by omega)] at hx
        have hi : i < (brokenR h F kz k0).length := (List.getElem?_eq_some_iff.mp hm).1
        rw [broken_len] at hi
        have ei : i = h.r.toNat := by omega
        subst ei
        rw [broken_last] at hm
        cases hm
        rw [lls, Nat.sub_self] at hx
        cases hx
        refine ⟨L4, rfl, ?_, List.length_replicate⟩
        rw [(s16.trans s17) _ _ e15, List.map_replicate]
    have bag17 := bag13.keep s37
    have lb : (ls ++ [V.ref L4]).length = (brokenR h F kz k0).length := by rw [List.length_append, broken_len, lls]; rfl
    have lb2 : (brokenR h F kz k0).length ≤ 100 := by rw [broken_len]; omega
    refine ⟨_, rfl, _, rfl, _, rfl, ?_⟩
    simp only [tNil]
    refine fw_any (rs := brokenR h F kz k0) (fs := F) (t := false) (hA13.keep s37) ok (SqL.of e17) lb lb2 (fun i x ms hx hm => ?_) ⟨false, zs, SqL.of (s37 _ _ hq13), dz13.k (Kt.same s37)⟩ fokF fun A18 s18 => ?_
    · obtain ⟨a, ex, ha, la⟩ := rowsC i x ms hx hm
      exact ⟨a, ex, .good (t := false) (SqL.of ha) la⟩
    rw [broken_quiet ok rfl kzl mk]
    refine ⟨rfl, _, rfl, iteF ?_⟩
    have bag18 := bag17.keep s18
    have D4b : D4 ≠ b := (bag13.keep s36).off h6
    refine ⟨_, rfl, _, rfl, _, rfl, _, rfl, b, n + 7, 2, h.l, rfl, by omega, hl, bag18, by omega, fun A19 q2 F2 zs2 nq2 lF2 dF2 hq2 dz2 bag19 but19 => ?_⟩
    simp only [tNil]
    have bt19 : Bt b A17 A19 := (Bt.of s18).trans but19
    refine fw_any (rs := brokenR h F kz k0) (fs := F2) (t := false) ((hA13.keep s37).bt bag17 bt19) ok (SqL.of (bt19.keep _ _ D4b e17)) lb lb2 (fun i x ms hx hm => ?_) ⟨false, zs2, SqL.of hq2, dz2⟩ ⟨by omega, dF2⟩ fun A20 s20 => ?_
    · obtain ⟨a, ex, ha, la⟩ := rowsC i x ms hx hm
      exact ⟨a, ex, .good (t := false) (SqL.of (bt19.keep _ _ (bg_no bag17 ha fun _ _ _ _ _ z => by cases ms <;> cases z) ha)) la⟩
    rw [broken_quiet ok rfl kzl mk]
    exact ⟨rfl, kk _ ((bag19.keep s20).mono (by omega)) (((Bt.of (s68.trans s9)).trans bt13).trans (((Bt.of s37).trans bt19).trans (Bt.of s20)))⟩
end
end K52

namespace K52
open PySem L2 Wm TL Dv Rm Lo
section
variable {P : Program} {w : World} {K : PySem.W.Frag} {mg : Str → Option Value} {base : Heap}
theorem num21 : Num [2, 1] := ⟨by decide, by decide, by decide, by decide⟩
theorem num21s : ("21" : Str) = numS [2, 1] := by decide +kernel
theorem run_first {h : Hs} : ∀ (rs : List (List Int)) (s : Ps) (n : Nat), (runP h s (rs.take n)).1 = (runP h s rs).1.take n
  | [], s, n => by rw [List.take_nil]; exact (List.take_nil (i := n)).symm
  | r :: rs, s, 0 => rfl
  | r :: rs, s, n + 1 => by
    show warns h s r :: (runP h (beatP h s r) (rs.take n)).1 = warns h s r :: ((runP h (beatP h s r) rs).1.take n)
    rw [run_first rs]
theorem firstB_take {bs : List Bool} {k : Nat} (e : firstB bs = some k) : firstB (bs.take (k + 1)) = some k := by
  obtain ⟨h1, h2⟩ := firstB_some e
  refine firstB_at _ k ?_ fun i hi => ?_
  · rw [List.getElem?_take, if_pos (by omega)]; exact h1
  · rw [List.getElem?_take, if_pos (by omega)]; exact h2 i hi
theorem firstW_take {h : Hs} {s : Ps} {rs : List (List Int)} {k : Nat} (e : firstW h s rs = some k) : firstW h s (rs.take (k + 1)) = some k := by
  unfold firstW at e ⊢
  rw [run_first]
  exact firstB_take e
theorem firstW_lt {h : Hs} {s : Ps} {rs : List (List Int)} {k : Nat} (e : firstW h s rs = some k) : k < rs.length := by
  have := (List.getElem?_eq_some_iff.mp (firstB_some e).1).1
  rw [run_len] at this
  exact this
theorem inV_true (bs : List Bool) : inV (.bl true) (bs.map V.bl) = (firstB bs).isSome := by
  induction bs with
  | nil => rfl
  | cons b bs ih =>
    cases b with
    | true => rfl
    | false =>
      show (false || inV (.bl true) (bs.map V.bl)) = ((firstB bs).map (· + 1)).isSome
      rw [Bool.false_or, ih, Option.isSome_map]
theorem eqH_self (h : Hs) : eqH h h = true := by
  unfold eqH
  simp
theorem fresh_run {h : Hs} {F : List Ft} {rs : List (List Int)} (dF : ∀ f ∈ F, f.2 ≤ h.l.length) : firstW h (putsP h (freshP h) F) rs = firstB (runP h ⟨[] ++ F, List.replicate (h.l.count true) 0, false⟩ rs).1 := by
  unfold firstW
  rw [run_puts (M := []) (s := freshP h) (norm_nil _).symm (fun f m => absurd m List.not_mem_nil) dF]
  rfl
theorem ite_due {σ : L2.St} {c : Bool} {H : Hp} {Q : VK} {te : TE} {o : Option Nat} (hc : c = o.isSome) (h1 : ∀ k, o = some k → Q (.int ((k : Nat) : Int)) H → te σ H Q) (q : Q (optV o) H) : if c = true then te σ H Q else tC .non σ H Q := by
  subst hc
  cases o with
  | none => exact iteF q
  | some k => exact iteT (h1 k rfl q)
end
end K52

namespace K52
open PySem L2 Wm TL Dv Rm Lo
section
variable {P : Program} {w : World} {K : PySem.W.Frag} {mg : Str → Option Value} {base : Heap}
theorem ok_law (T : Txt K mg) : FnOk P w K mg base CX0 14 T.a_law T.d_law ["_law_script"] (sp_law K) := by
  refine T.F_law.ok sc_law (fun vs H Q E h => ?_) (fun cdv A outer s H vs Q E hr h => ?_)
  · obtain ⟨a, ns, rfl, _⟩ := h
    rfl
  · obtain ⟨a, ns, rfl, ha, hn, k⟩ := h
    refine ⟨_, (pss_cons (ps_set (i := 1) sc_law.nd rfl (Or.inr rfl) (pe_call (ok_open T) (hr.mono (by decide)) (by rfl) T.g_open T.F_open.kp T.b_open .nil pass0 (pa_cons (pv 0) pa_nil)))
      (pss_cons (ps_set (i := 2) sc_law.nd rfl (Or.inl rfl) (pe_call (ok_text T) (hr.mono (by decide)) (by rfl) T.g_text T.F_text.kp T.b_text .nil pass0 (pa_cons (pv 1) pa_nil)))
      (pss_cons (ps_set (i := 3) sc_law.nd rfl (Or.inr rfl) (pe_callB call_len_seq (by rfl) T.z_len PySem.boot_len (pa_cons (pe_call (ok_spots T) (hr.mono (by decide)) (by rfl) T.g_spots T.F_spots.kp T.b_spots .nil pass0 (pa_cons (pv 2) pa_nil)) pa_nil)))
      (pss_cons (ps_set (i := 4) sc_law.nd rfl (Or.inl rfl) (pe_op op_add pe_int (pe_call (ok_draw T) (hr.mono (by decide)) (by rfl) T.g_draw T.F_draw.kp T.b_draw .nil pass0 (pa_cons (pv 1) (pa_cons (pv 3) pa_nil)))))
      (pss_cons (ps_set (i := 5) sc_law.nd rfl (Or.inr rfl) (pe_op op_sub (pe_call (ok_draw T) (hr.mono (by decide)) (by rfl) T.g_draw T.F_draw.kp T.b_draw .nil pass0 (pa_cons (pv 1) (pa_cons (pe_op op_add (pe_op op_mulX pe_int (pe_op op_pow pe_int pe_int)) pe_int) pa_nil))) (pe_op op_pow pe_int pe_int)))
      (pss_cons (ps_set (i := 6) sc_law.nd rfl (Or.inl rfl) (pe_op op_add pe_int (pe_call (ok_draw T) (hr.mono (by decide)) (by rfl) T.g_draw T.F_draw.kp T.b_draw .nil pass0 (pa_cons (pv 1) (pa_cons (pe_ifExp (pt_cmpR op_eq (pe_call (ok_draw T) (hr.mono (by decide)) (by rfl) T.g_draw T.F_draw.kp T.b_draw .nil pass0 (pa_cons (pv 1) (pa_cons pe_int pa_nil))) pe_int (nomark _)) pe_int pe_int) pa_nil)))))
      (pss_cons (ps_set (i := 7) sc_law.nd rfl (Or.inl rfl) (pe_makeK T.mk_hinit (ok_hinit T) (hr.mono (by decide)) (by rfl) T.gHC T.kbH3 Mk1.passF (pa_cons pe_str (pa_cons (pv 2) pa_nil)) (pk_cons (pv 5) (pk_cons (pv 6) (pk_cons (pv 4) pk_nil)))))
      (pss_cons (ps_set (i := 8) sc_law.nd rfl (Or.inl rfl) (pe_tup (pa_cons (pv 2) (pa_cons (pv 5) (pa_cons (pv 6) (pa_cons (pv 4) pa_nil))))))
      (pss_cons (ps_set (i := 9) sc_law.nd rfl (Or.inl rfl) (pe_lst (pa_cons (pe_lst pa_nil) (pa_cons (pe_op op_rep (pe_lst (pa_cons pe_int pa_nil)) (pv 3)) (pa_cons pe_bl pa_nil)))))
      (pss_cons (ps_set (i := 10) sc_law.nd rfl (Or.inl rfl) (pe_lst (pa_cons (pe_lst pa_nil) (pa_cons (pe_op op_rep (pe_lst (pa_cons pe_int pa_nil)) (pv 3)) (pa_cons pe_bl pa_nil)))))
      (pss_cons (ps_set (i := 11) sc_law.nd rfl (Or.inl rfl) (pe_make T.mk_pinit (ok_pinit T) (hr.mono (by decide)) (by rfl) T.gPC T.b_pinit .nil pass0 (pa_cons (pv 7) pa_nil)))
      (pss_cons (ps_set (i := 12) sc_law.nd rfl (Or.inl rfl) (pe_make T.mk_pinit (ok_pinit T) (hr.mono (by decide)) (by rfl) T.gPC T.b_pinit .nil pass0 (pa_cons (pv 7) pa_nil)))
      (pss_cons (ps_for PassesOwn.never rfl (pi_range1 (by rfl) T.z_range (pa_cons (pe_op op_add pe_int (pe_call (ok_draw T) (hr.mono (by decide)) (by rfl) T.g_draw T.F_draw.kp T.b_draw .nil pass0 (pa_cons (pv 1) (pa_cons pe_int pa_nil)))) pa_nil)) (pg_name (i := 13) sc_law.nd rfl (Or.inl rfl))
        (C8.pss_cut (ps_if (pt_cmpR op_gt (pe_call (ok_draw T) (hr.mono (by decide)) (by rfl) T.g_draw T.F_draw.kp T.b_draw .nil pass0 (pa_cons (pv 1) (pa_cons pe_int pa_nil))) pe_int (nomark _))
          (pss_one (ps_if (pt_not (pt_val (pe_call (ok_deed T) (hr.mono (by decide)) (by rfl) T.g_deed T.F_deed.kp T.b_deed .nil pass0 (pa_cons (pv 1) (pa_cons (pv 11) (pa_cons (pv 8) (pa_cons (pv 9) pa_nil)))))))
            (pss_one (ps_ret pe_bl))
            pss_nil))
          (pss_one (ps_if (pt_not (pt_val (pe_call (ok_deed T) (hr.mono (by decide)) (by rfl) T.g_deed T.F_deed.kp T.b_deed .nil pass0 (pa_cons (pv 1) (pa_cons (pv 12) (pa_cons (pv 8) (pa_cons (pv 10) pa_nil)))))))
            (pss_one (ps_ret pe_bl))
            pss_nil)))
        (pss_one (ps_if (PW.pt (pw_or (pt_not (pt_val (pe_call (ok_same T) (hr.mono (by decide)) (by rfl) T.g_same T.F_same.kp T.b_same .nil pass0 (pa_cons (pv 11) (pa_cons (pv 8) (pa_cons (pv 9) pa_nil)))))) (pw_or1 (pt_not (pt_val (pe_call (ok_same T) (hr.mono (by decide)) (by rfl) T.g_same T.F_same.kp T.b_same .nil pass0 (pa_cons (pv 12) (pa_cons (pv 8) (pa_cons (pv 10) pa_nil)))))))))
          (pss_one (ps_ret pe_bl))
          pss_nil))))
      (pss_cons (ps_set (i := 14) sc_law.nd rfl (Or.inl rfl) (pe_call (ok_faults T) (hr.mono (by decide)) (by rfl) T.g_faults T.F_faults.kp T.b_faults .nil pass0 (pa_cons (pv 1) (pa_cons (pv 2) (pa_cons (pe_call (ok_draw T) (hr.mono (by decide)) (by rfl) T.g_draw T.F_draw.kp T.b_draw .nil pass0 (pa_cons (pv 1) (pa_cons pe_int pa_nil))) pa_nil)))))
      (pss_cons (ps_setLc (i := 15) (own := [("_law_k", 16)]) (g := gName 16) (tt := tYes) rfl sc_law.nd rfl rfl (sw_true rfl rfl rfl (by decide +kernel)) (pi_range1 (by rfl) T.z_range (pa_cons (pe_call (ok_draw T) (hr.mono (by decide)) (by rfl) T.g_draw T.F_draw.kp T.b_draw .nil pass0 (pa_cons (pv 1) (pa_cons pe_int pa_nil))) pa_nil)) (blkOk_by (own := [("_law_k", 16)]) (N := nm_law) (sc := (defScope s_law)) (by decide +kernel)) (fun _ _ _ _ _ => pg_name (i := 16) sc_law.nd rfl (Or.inl rfl)) (fun _ _ _ _ _ => pts_nil) (fun _ _ _ _ _ => (pe_call (ok_levels T) (hr.mono (by decide)) (by rfl) T.g_levels T.F_levels.kp T.b_levels .nil pass0 (pa_cons (pv 1) (pa_cons (pv 5) (pa_cons (pv 3) pa_nil))))))
      (pss_cons (ps_set (i := 17) sc_law.nd rfl (Or.inl rfl) (pe_call (ok_run T) (hr.mono (by decide)) (by rfl) T.g_run T.F_run.kp T.b_run .nil pass0 (pa_cons (pv 8) (pa_cons (pe_lst (pa_cons (pe_lst pa_nil) (pa_cons (pe_op op_rep (pe_lst (pa_cons pe_int pa_nil)) (pv 3)) (pa_cons pe_bl pa_nil)))) (pa_cons (pv 14) (pa_cons (pv 15) pa_nil))))))
      (pss_cons (ps_set (i := 18) sc_law.nd rfl (Or.inl rfl) (pe_ifExp (pt_cmpR op_in_seq pe_bl (pv 17) rfl) (Tf.pe_bmF PySem.F.plainAttrs_tuple PySem.F.slot_tuple_index PySem.F.type_tuple_index Tix.mt_tidxB (pv 17) (pa_cons pe_bl pa_nil)) pe_non))
      (pss_cons (ps_if (PW.pt (pw_or (pt_cmpR (op_neD hr.units) (pe_call (ok_first_warning T) (hr.mono (by decide)) (by rfl) T.g_first_warning T.F_first_warning.kp T.b_first_warning .nil Mk1.passF (pa_cons (pv 7) (pa_cons (pv 15) (pa_cons (pv 14) pa_nil)))) (pv 18) (nomark _)) (pw_or1 (pt_not (pt_cmpR (Ow.op_cmp (op := .Eq) (fun _ _ => rfl) T.aEq T.iEq ((ok_heq T).raw T.b_heq .nil) (hr.mono (by decide)) pass0) (pe_fld (pv 11) rfl) (pv 7) (nomark _))))))
        (pss_one (ps_ret pe_bl))
        pss_nil)
      (pss_cons (ps_if (PW.pt (pw_and (pt_cmpR op_notN (pv 18) pe_non (nomark _)) (pw_and1 (pt_cmpR (op_neD hr.units) (pe_call (ok_first_warning T) (hr.mono (by decide)) (by rfl) T.g_first_warning T.F_first_warning.kp T.b_first_warning .nil Mk1.passF (pa_cons (pv 7) (pa_cons (pe_op op_cat (pe_slice sl_list (pv 15) po_none (po_some (pe_op op_add (pv 18) pe_int))) (pe_lst (pa_cons pe_non pa_nil))) (pa_cons (pe_callTy call_tuple_of (by rfl) T.z_tuple (by decide +kernel) (pa_cons (pv 14) pa_nil)) pa_nil)))) (pv 18) (nomark _)))))
        (pss_one (ps_ret pe_bl))
        pss_nil)
      (pss_cons (ps_if (pt_not (pt_val (pe_call (ok_left_out T) (hr.mono (by decide)) (by rfl) T.g_left_out T.F_left_out.kp T.b_left_out .nil pass0 (pa_cons (pv 1) (pa_cons (pv 7) (pa_cons (pv 8) (pa_cons (pv 15) pa_nil)))))))
        (pss_one (ps_ret pe_bl))
        pss_nil)
      (pss_one (ps_ret (pe_and (pe_call (ok_least T) (hr.mono (by decide)) (by rfl) T.g_least T.F_least.kp T.b_least .nil pass0 (pa_cons (pv 1) (pa_cons (pv 7) (pa_cons (pv 8) pa_nil)))) (pe_one (pe_cmpR op_eq (pe_fld (pv 7) rfl) (pv 2) (nomark _)))))))))))))))))))))))))), ?_⟩
    refine ⟨_, rfl, a, ns, rfl, ha, hn, fun H1 b s1 bag1 => ?_⟩
    refine ⟨_, rfl, b, 0, rfl, bag1, by omega, fun H2 l R bag2 but2 => ?_⟩
    have hl := R.len
    have cl : l.count true ≤ l.length := List.count_le_length
    have c1 : 1 ≤ l.count true := List.count_pos_iff.mpr R.2
    refine ⟨_, rfl, l, rfl, hl, fun H3 r s3 nr hr => ⟨r, _, rfl, .inl (SqL.of hr), ?_⟩⟩
    rw [show (nV (sp l)).length = l.count true from (nV_len (sp l)).trans (Rm.sp_len l)]
    have bag3 := bag2.keep s3
    refine ⟨_, rfl, _, rfl, b, 30, ((l.count true : Nat) : Int), rfl, by omega, by omega, bag3, by omega, fun H4 d4 e0 e1 bag4 but4 => ?_⟩
    refine ⟨_, _, rfl, rfl, ?_⟩
    obtain ⟨k4, rfl⟩ : ∃ k : Nat, d4 = ((k : Nat) : Int) := ⟨d4.toNat, by omega⟩
    have ez : (1 : Int) + ((k4 : Nat) : Int) = ((k4 + 1 : Nat) : Int) := by omega
    (try dsimp only)
    rw [ez]
    have big : (10 : Int) ^ (20 : Int).toNat = 100000000000000000000 := by decide +kernel
    refine ⟨_, rfl, _, _, rfl, rfl, ⟨by decide, by decide, by decide⟩, _, _, rfl, rfl, mulx_ok (a := 2) (b := 67) (by decide) (by rw [big]; decide) (by decide), _, _, rfl, rfl, b, 31, _, rfl, by rw [big]; decide, by rw [big]; decide, bag4, by omega, fun H5 d5 f0 f1 bag5 but5 => ?_⟩
    refine ⟨_, _, rfl, rfl, ⟨by decide, by decide, by decide⟩, _, _, rfl, rfl, ?_⟩
    (try dsimp only)
    generalize d5 - (10 : Int) ^ (20 : Int).toNat = bar
    refine ⟨_, rfl, _, rfl, b, 32, 6, rfl, by decide, by decide, bag5, by omega, fun H6 d6 g0 g1 bag6 but6 => ?_⟩
    refine ⟨rfl, _, rfl, ite_lim fun lim hlim => ?_⟩
    refine ⟨b, 33, lim, rfl, by omega, by omega, bag6, by omega, fun H7 d7 h0 h1 bag7 but7 => ?_⟩
    refine ⟨_, _, rfl, rfl, ?_⟩
    (try dsimp only)
    have st1 : 1 ≤ 1 + d7 := by omega
    have st8 : 1 + d7 ≤ 8 := by omega
    generalize 1 + d7 = steps at *
    have k4l : k4 + 1 ≤ l.count true := by omega
    have k41 : 1 ≤ k4 + 1 := by omega
    clear but2 s1 nr s3 e0 e1 f0 f1 but4 but5 but6 but7 hlim h0 h1 g0 g1 bag1 bag2 bag3 bag4 bag5 bag6 ha ez big hr
    generalize k4 + 1 = nd at *
    obtain ⟨h, e1, e2, e3, e4, e5, ok⟩ : ∃ h : Hs, h.l = l ∧ h.m = bar ∧ h.r = steps ∧ h.n = nd ∧ h.ds = [2, 1] ∧ HsOk h := ⟨⟨[2, 1], l, bar, steps, nd⟩, rfl, rfl, rfl, rfl, rfl, ⟨num21, R, st1, st8, k41, k4l⟩⟩
    subst e1 e2 e3 e4
    have bag7 := bag7.mono (m := 35) (by omega)
    refine ⟨_, rfl, _, rfl, _, rfl, _, rfl, rfl, rfl, fun p dx hp hdx ne => ?_⟩
    refine ⟨p, dx, _, _, _, _, _, .ok h, rfl, upd_same, ?_, fun H8 off hA => ⟨rfl, ?_⟩⟩
    · have z := HI.ok (K := K) (H := upd (upd H7 dx (HO.own p)) p (HO.ins T.HC dx [])) ok
      rw [e5, ← num21s] at z
      exact z
    have s8 := made_off hp hdx ne off
    have bag8 := bag7.keep s8
    clear s8 off bag7 hp hdx ne
    refine ⟨_, rfl, _, rfl, _, rfl, _, rfl, small_len (by show 4 ≤ 100000; decide), fun u hu => ?_⟩
    generalize x9 : upd H8 u _ = H9
    obtain ⟨s9, hu9⟩ := got x9 hu
    have bag9 := bag8.keep s9
    have hA9 := hA.keep s9
    have mkM : ∀ {A B C D : Hp} {x z w : Addr}, Same A B → Same B C → Same C D → A x = some (.lst []) → C z = some (.lst (nV (List.replicate (h.l.count true) 0))) → D w = some (.lst [.ref x, .ref z, .bl false]) → ModelAt K D w [] (freshP h).cs (freshP h).al := fun s1 s2 s3 hx hz hw =>
      ⟨_, _, [], hw, s3 _ _ (s2 _ _ (s1 _ _ hx)), .nil, s3 _ _ hz⟩
    have nz : ((h.l.count true : Nat) : Int).toNat = h.l.count true := Int.toNat_natCast _
    refine ⟨small_len (by show 0 ≤ 100000; decide), fun la1 g1 => ?_⟩
    generalize x1 : upd H9 la1 _ = B1
    obtain ⟨s1, e1⟩ := got x1 g1
    refine ⟨small_len (by show 1 ≤ 100000; decide), fun la2 g2 => ?_⟩
    generalize x2 : upd B1 la2 _ = B2
    obtain ⟨s2, e2⟩ := got x2 g2
    refine ⟨_, rfl, la2, _, _, rfl, rfl, e2, by omega, by omega, by rw [nz]; exact small_len (by show 1 * _ ≤ 100000; omega), fun la3 g3 => ?_⟩
    rw [nz, rep_zero]
    generalize x3 : upd B2 la3 _ = B3
    obtain ⟨s3, e3⟩ := got x3 g3
    refine ⟨small_len (by show 3 ≤ 100000; decide), fun m1 g4 => ?_⟩
    generalize x4 : upd B3 m1 _ = B4
    obtain ⟨s4, e4⟩ := got x4 g4
    have md1 := mkM (Same.refl _) (s2.trans s3) s4 e1 e3 e4
    have s14 := ((s1.trans s2).trans s3).trans s4
    have hA14 := hA9.keep s14
    have hu14 := s14 _ _ hu9
    have bag14 := bag9.keep s14
    clear s1 e1 s2 e2 s3 e3 s4 g1 g2 g3 x1 x2 x3 x4 s14
    refine ⟨small_len (by show 0 ≤ 100000; decide), fun M1 g1 => ?_⟩
    generalize x1 : upd B4 M1 _ = C1
    obtain ⟨s1, e1⟩ := got x1 g1
    refine ⟨small_len (by show 1 ≤ 100000; decide), fun M2 g2 => ?_⟩
    generalize x2 : upd C1 M2 _ = C2
    obtain ⟨s2, e2⟩ := got x2 g2
    refine ⟨_, rfl, M2, _, _, rfl, rfl, e2, by omega, by omega, by rw [nz]; exact small_len (by show 1 * _ ≤ 100000; omega), fun M3 g3 => ?_⟩
    rw [nz, rep_zero]
    generalize x3 : upd C2 M3 _ = C3
    obtain ⟨s3, e3⟩ := got x3 g3
    refine ⟨small_len (by show 3 ≤ 100000; decide), fun m2 g5 => ?_⟩
    generalize x4 : upd C3 m2 _ = C4
    obtain ⟨s4, e4'⟩ := got x4 g5
    have md2 := mkM (Same.refl _) (s2.trans s3) s4 e1 e3 e4'
    have s24 := ((s1.trans s2).trans s3).trans s4
    have md1 := md1.keep s24
    have hA24 := hA14.keep s24
    have hu24 := s24 _ _ hu14
    have bag24 := bag14.keep s24
    have mne : m2 ≠ m1 := (ne_of_none (((s1.trans s2).trans s3) _ _ e4) g5).symm
    clear s1 e1 s2 e2 s3 e3 s4 g1 g2 g3 x1 x2 x3 x4 s24 e4 e4' mkM g4 g5
    refine ⟨_, rfl, fun p1 dp1 hp1 hdp1 ne1 => ?_⟩
    have sm1 := made (C := T.PC) hp1 hdp1 ne1
    refine ⟨p1, p, dp1, h, rfl, upd_same, hA24.keep sm1, ok, fun H10 off1 hP1 => ⟨rfl, ?_⟩⟩
    have s1 := made_off hp1 hdp1 ne1 off1
    have hA10 := hA24.keep s1
    have hu10 := s1 _ _ hu24
    have bag10 := bag24.keep s1
    have md1 := md1.keep s1
    have md2 := md2.keep s1
    refine ⟨_, rfl, fun p2 dp2 hp2 hdp2 ne2 => ?_⟩
    have sm2 := made (C := T.PC) hp2 hdp2 ne2
    refine ⟨p2, p, dp2, h, rfl, upd_same, hA10.keep sm2, ok, fun H11 off2 hP2 => ⟨rfl, ?_⟩⟩
    have s2 := made_off hp2 hdp2 ne2 off2
    have pne : p2 ≠ p1 := by
      obtain ⟨g, u', v, w, ⟨dx, fs, hh, hq, _⟩, _⟩ := hP1
      exact (ne_of_none hq hp2).symm
    have hP1 := hP1.ks s2
    have hA11 := hA10.keep s2
    have hu11 := s2 _ _ hu10
    have bag11 := bag10.keep s2
    have md1 := md1.keep s2
    have md2 := md2.keep s2
    clear hA10 hu10 bag10 s1 s2 off1 off2 sm1 sm2 hA24 hu24 bag24 hA9 hA14 hA hu9 hu14 bag9 bag14 bag8 ne1 ne2 hdp1 hdp2 hp1 hp2
    have pr1 : Pair K T.C T.HC T.PC H11 p1 m1 h (freshP h) [] := ⟨hP1, md1, (norm_nil _).symm, List.nodup_nil, fun f m => absurd m List.not_mem_nil⟩
    have pr2 : Pair K T.C T.HC T.PC H11 p2 m2 h (freshP h) [] := ⟨hP2, md2, (norm_nil _).symm, List.nodup_nil, fun f m => absurd m List.not_mem_nil⟩
    clear md1 md2 hP1 hP2
    refine ⟨_, rfl, b, 35, 17, rfl, by decide, by decide, bag11, by omega, fun H12 d12 e0 e1 bag12 but12 => ?_⟩
    refine ⟨_, _, rfl, rfl, _, rfl, by omega, by omega, ?_⟩
    have t24 : (8 + d12).toNat ≤ 24 := by omega
    generalize (8 + d12).toNat = turns at *
    have hA12 := hA11.bt bag11 but12
    have pl12 : PlanAt K H12 u h := SqT.k (SqT.of hu11) (kt_bt bag11 but12)
    have pr1 := pr1.bt bag11 but12
    have pr2 := pr2.bt bag11 but12
    clear hA11 hu11 bag11 but12 e0 e1
    refine for_range (fun i σ A => ∃ (vt : Option V) (s1 : Ps) (M1 : List Ft) (s2 : Ps) (M2 : List Ft), σ = [some (.ref a), some (.ref b), some (.str (rgS h.l)), some (.int ((h.l.count true : Nat) : Int)), some (.int ((h.n : Nat) : Int)), some (.int h.m), some (.int h.r), some (.ref p), some (.ref u), some (.ref m1), some (.ref m2), some (.ref p1), some (.ref p2), vt, none, none, none, none, none] ∧
        Bg A b (36 + 402 * i) ∧ HouseAt K T.C T.HC A p h ∧ PlanAt K A u h ∧ Pair K T.C T.HC T.PC A p1 m1 h s1 M1 ∧ Pair K T.C T.HC T.PC A p2 m2 h s2 M2)
      ⟨none, _, _, _, _, rfl, bag12, hA12, pl12, pr1, pr2⟩ (fun i σ A hi hP => ?_) (fun σ A hP => ?_)
    · obtain ⟨vt, s1, M1, s2, M2, rfl, bag, hA, pl, pr1, pr2⟩ := hP
      have hi : i < turns := hi
      refine ⟨fun σ B => ∃ (vt : Option V) (s1 : Ps) (M1 : List Ft) (s2 : Ps) (M2 : List Ft), σ = [some (.ref a), some (.ref b), some (.str (rgS h.l)), some (.int ((h.l.count true : Nat) : Int)), some (.int ((h.n : Nat) : Int)), some (.int h.m), some (.int h.r), some (.ref p), some (.ref u), some (.ref m1), some (.ref m2), some (.ref p1), some (.ref p2), vt, none, none, none, none, none] ∧
        Bg B b (36 + 402 * (i + 1)) ∧ HouseAt K T.C T.HC B p h ∧ PlanAt K B u h ∧ Pair K T.C T.HC T.PC B p1 m1 h s1 M1 ∧ Pair K T.C T.HC T.PC B p2 m2 h s2 M2, ?_, ?_⟩
      · refine ⟨_, rfl, b, _, 4, rfl, by decide, by decide, bag, by omega, fun A1 d q0 q1 bag1 but1 => ?_⟩
        have hA1 := hA.bt bag but1
        have pl1 : PlanAt K A1 u h := SqT.k pl (kt_bt bag but1)
        have pr11 := pr1.bt bag but1
        have pr21 := pr2.bt bag but1
        clear hA pl pr1 pr2
        refine ⟨_, _, rfl, rfl, _, rfl, ite2 (fun c => ?_) (fun c => ?_)⟩
        · refine ⟨_, rfl, _, rfl, _, rfl, _, rfl, b, p1, u, m1, _, h, s1, M1, rfl, bag1, by omega, pl1, ok, pr11, fun B s' M' bagB fr prB => ?_⟩
          refine ⟨_, rfl, iteF ?_⟩
          exact ⟨_, _, _, _, _, rfl, bagB.mono (by omega), pr11.house hA1 bag1 fr, SqT.k pl1 (pr11.kt bag1 fr), prB, pr21.frame pr11 bag1 pne mne fr⟩
        · refine ⟨_, rfl, _, rfl, _, rfl, _, rfl, b, p2, u, m2, _, h, s2, M2, rfl, bag1, by omega, pl1, ok, pr21, fun B s' M' bagB fr prB => ?_⟩
          refine ⟨_, rfl, iteF ?_⟩
          exact ⟨_, _, _, _, _, rfl, bagB.mono (by omega), pr21.house hA1 bag1 fr, SqT.k pl1 (pr21.kt bag1 fr), pr11.frame pr21 bag1 pne.symm mne.symm fr, prB⟩
      · rintro σ B ⟨vt, s1, M1, s2, M2, rfl, bagB, hAB, plB, pr1B, pr2B⟩
        refine ⟨_, rfl, _, rfl, _, rfl, p1, u, m1, h, s1, M1, rfl, plB, ok, pr1B, fun B1 z1 => ?_⟩
        refine ⟨_, rfl, iteF ?_⟩
        refine ⟨_, rfl, _, rfl, _, rfl, p2, u, m2, h, s2, M2, rfl, SqT.k plB (Kt.same z1), ok, pr2B.ks z1, fun B2 z2 => ?_⟩
        refine ⟨_, rfl, iteF ?_⟩
        have z := z1.trans z2
        exact ⟨_, _, _, _, _, rfl, bagB.keep z, hAB.keep z, SqT.k plB (Kt.same z), pr1B.ks z, pr2B.ks z⟩
    · obtain ⟨vt, s1, M1, s2, M2, rfl, bag, hA, pl, pq1, _⟩ := hP
      clear pr1 pr2 hA12 pl12 bag12
      have bag := bag.mono (m := 9700) (by omega)
      refine ⟨_, rfl, _, rfl, _, rfl, b, _, 2, rfl, by decide, by decide, bag, by omega, fun A1 d1 q0 q1 bag1 but1 => ?_⟩
      obtain ⟨k1, rfl⟩ : ∃ k : Nat, d1 = ((k : Nat) : Int) := ⟨d1.toNat, by omega⟩
      refine ⟨b, _, k1, h.l, rfl, by omega, hl, bag1, by omega, fun A2 q F zs nq lF dF hq dzs bag2 but2 => ?_⟩
      have bt2 := but1.trans but2
      have bag2 := bag2.mono (m := 9710) (by omega)
      have qb : q ≠ b := bag.off (bt_fresh (H := A) but1 bag1 nq)
      have fokF : FOk h.l.length F := ⟨by omega, dF⟩
      refine ⟨_, rfl, b, _, 9, rfl, by decide, by decide, bag2, by omega, fun A3 d2 d20 d21 bag3 but3 => ?_⟩
      obtain ⟨k2, rfl⟩ : ∃ k : Nat, d2 = ((k : Nat) : Int) := ⟨d2.toNat, by omega⟩
      have k24 : k2 ≤ 8 := by omega
      refine ⟨_, rfl, by omega, by omega, fun D hD => ?_⟩
      rw [Int.toNat_natCast]
      have bt3 := bt2.trans but3
      have hA3 := hA.bt bag bt3
      have pl3 : PlanAt K A3 u h := SqT.k pl (kt_bt bag bt3)
      have pr3 := pq1.bt bag bt3
      have hq3 := but3.keep _ _ qb hq
      have dz3 := dzs.k (kt_bt bag2 but3)
      clear hA pl pq1 hq dzs but1 but2 bt2 bt3 but3 bag1
      have Db := bag3.off hD
      have sD := same_new (o := .lst []) hD
      refine lc_it (tt := tYes) walk_range (fun i B => ∃ ys rs, B D = some (.lst ys) ∧ rs.length = i ∧ Rws B (h.l.count true) ys rs ∧ Bg B b (9711 + 31 * i) ∧ Bt b A3 B) ⟨[], [], upd_same, rfl, .nil, bag3.keep sD, Bt.of sD⟩ (fun _ _ _ _ => trivial) (fun i x B B' hi hP hY => ?_) (fun B hP => ?_)
      · obtain ⟨ys, rs, hB, lr, rw1, bagB, btB⟩ := hP
        obtain ⟨rfl, rfl⟩ := hY
        refine ⟨rfl, yesT ?_⟩
        refine ⟨_, rfl, _, rfl, _, rfl, b, _, h.m, h.l.count true, rfl, by omega, bagB, by omega, fun C r ms nr lms hr bagC btC => ?_⟩
        have hC := btC.keep _ _ Db hB
        have ly := rw1.len
        refine ⟨_, hC, small1000 (by omega), ys ++ [.ref r], rs ++ [ms], upd_same, by rw [List.length_append, lr]; rfl, ?_, ?_, ?_⟩
        · exact ((rw1.bt bagB btC).snoc lms hr).put hC (rw1.refs) (by omega)
        · exact (bag3.put hD (btB.trans btC) bagC).mono (by omega)
        · exact (btB.trans btC).put hD
      obtain ⟨ys, rs, hB, lr, rw1, bagB, btB⟩ := hP
      have ly := rw1.len
      have hA4 := hA3.bt bag3 btB
      have pl4 : PlanAt K B u h := SqT.k pl3 (kt_bt bag3 btB)
      have pr4 := pr3.bt bag3 btB
      have hq4 := btB.keep _ _ qb hq3
      have dz4 := dz3.k (kt_bt bag3 btB)
      clear hA3 pl3 pr3 hq3 dz3 btB bag3 sD hD bag2
      refine ⟨_, rfl, small_len (by show 0 ≤ 100000; decide), fun w1 g1 => ?_⟩
      generalize x1 : upd B w1 _ = C1
      obtain ⟨s1, e1⟩ := got x1 g1
      refine ⟨small_len (by show 1 ≤ 100000; decide), fun w2 g2 => ?_⟩
      generalize x2 : upd C1 w2 _ = C2
      obtain ⟨s2, e2⟩ := got x2 g2
      refine ⟨_, rfl, w2, _, _, rfl, rfl, e2, by omega, by omega, by rw [nz]; exact small_len (by show 1 * _ ≤ 100000; omega), fun w3 g3 => ?_⟩
      rw [nz, rep_zero]
      generalize x3 : upd C2 w3 _ = C3
      obtain ⟨s3, e3⟩ := got x3 g3
      refine ⟨small_len (by show 3 ≤ 100000; decide), fun w4 g4 => ?_⟩
      generalize x4 : upd C3 w4 _ = C4
      obtain ⟨s4, e4⟩ := got x4 g4
      have md : ModelAt K C4 w4 [] (List.replicate (h.l.count true) 0) false := ⟨_, _, [], e4, (((s2.trans s3).trans s4)) _ _ e1, .nil, s4 _ _ e3⟩
      have s14 := ((s1.trans s2).trans s3).trans s4
      clear e1 e2 e3 e4 g1 g2 g3 g4 x1 x2 x3 x4 s1 s2 s3 s4
      have rw4 := rw1.keep s14
      refine ⟨_, rfl, _, rfl, u, w4, q, D, h, [], F, _, false, zs, ys, rs, rfl, SqT.k pl4 (Kt.same s14), ok, md, s14 _ _ hq4, dz4.k (Kt.same s14), fokF, List.length_replicate, s14 _ _ hB, ly, by omega, fun i x ms hx hm => (let ⟨l1, a, e, ha⟩ := rw4.get i x ms hx hm; ⟨l1, a, e, SqL.of ha⟩), fun C5 t1 s5 ht1 => ?_⟩
      have sB := s14.trans s5
      have hA5 := hA4.keep sB
      have pl5 : PlanAt K C5 u h := SqT.k pl4 (Kt.same sB)
      have pr5 := pr4.ks sB
      have hq5 := sB _ _ hq4
      have dz5 := dz4.k (Kt.same sB)
      have hB5 := sB _ _ hB
      have rw5 := rw1.keep sB
      have bag5 := bagB.keep sB
      have fr5 := fresh_run (h := h) (rs := rs) dF
      clear hA4 pl4 pr4 hq4 dz4 hB rw1 bagB sB s14 s5 md rw4
      generalize (runP h ⟨[] ++ F, List.replicate (h.l.count true) 0, false⟩ rs).1 = bs at *
      have flB : (bs.map V.bl).all flatV = true := by
        rw [List.all_map]
        exact List.all_eq_true.mpr fun _ _ => rfl
      have hq1 := ht1.sq (K := K)
      refine ⟨_, rfl, t1, _, rfl, .inr hq1, rfl, flB, _, rfl, ?_⟩
      refine ite_due (o := firstB bs) (inV_true bs) (fun k e q' => ⟨_, rfl, ⟨t1, _, rfl, ht1⟩, t1, bs, k, rfl, rfl, hq1, (firstB_some e).1, fun m hm z => ?_, q'⟩) ?_
      · rw [(firstB_some e).2 m hm] at z
        cases z
      have hb5 : BeatsAt K C5 D (h.l.count true) rs := rw5.beats hB5 (by omega)
      refine ⟨_, rfl, _, rfl, _, rfl, ?_⟩
      simp only [tNil, List.append_nil]
      refine fw_spec hA5 ok hb5 ⟨false, zs, SqL.of hq5, dz5⟩ fokF fun C6 s6 => ?_
      rw [fr5]
      refine ⟨_, rfl, ?_⟩
      refine ne_like (opt_dp _) (opt_dp _) (fine_opt (n := 0) _) (by decide) ⟨_, rfl, ?_⟩
      obtain ⟨g, fu, fv, fw, ⟨dx, fs, hh, hp1, lf, lk, gh, hAp, no⟩, _⟩ := (pr5.pan.ks s6)
      have hA6 := hA5.keep s6
      obtain ⟨dh, fh, rq, hhp, _⟩ := id hA6
      obtain ⟨dk, fk, rk, hkp, _⟩ := id hAp
      refine iteF ⟨_, rfl, p1, T.PC, dx, fs, _, rfl, hp1, T.clPC, T.nHo, (lk _).trans gh, _, rfl, hh, dk, fk, _, rfl, hkp, .base (.ins hhp T.clHC T.isi.ca T.isi.cn T.isi.ct T.isi.cm), T.sfC, ?_⟩
      refine ⟨hh, p, h, h, rfl, hAp, hA6, ?_⟩
      rw [eqH_self]
      refine ⟨_, rfl, iteF ?_⟩
      have bag6 := bag5.keep s6
      have pl6 : PlanAt K C6 u h := SqT.k pl5 (Kt.same s6)
      have hb6 := hb5.ks s6
      have hB6 := s6 _ _ hB5
      have hq6 := s6 _ _ hq5
      have dz6 := dz5.k (Kt.same s6)
      have rw6 := rw5.keep s6
      clear hA5 pl5 pr5 hq5 dz5 hb5 hB5 rw5 bag5 hAp hkp hp1
      cases eo : firstB bs with
      | none =>
        refine ⟨_, rfl, rfl, _, rfl, iteF ?_⟩
        refine ⟨_, rfl, _, rfl, _, rfl, _, rfl, b, p, u, D, _, h, rs, rfl, bag6, by omega, pl6, ok, hA6, hb6, fun C7 bag7 but7 => ?_⟩
        refine ⟨_, rfl, iteF ?_⟩
        have hA7 := hA6.bt bag6 but7
        refine ⟨_, rfl, _, rfl, _, rfl, b, p, u, _, h, rfl, bag7, by omega, SqT.k pl6 (kt_bt bag6 but7), ok, hA7, fun C8 bag8 but8 => ?_⟩
        obtain ⟨dy, fy, ry, hy, y1, y2, _⟩ := hA7.bt bag7 but8
        refine ⟨_, rfl, iteT ⟨_, rfl, p, T.HC, dy, fy, _, rfl, hy, T.clHC, T.nRi, y2, _, rfl, rfl, ?_⟩⟩
        rw [decide_eq_true (show V.str (rgS h.l) = V.str (rgS h.l) from rfl)]
        exact k _
      | some k0 =>
        have k0l : k0 < rs.length := firstW_lt (fr5.trans eo)
        refine ⟨_, rfl, rfl, _, rfl, iteT ?_⟩
        refine ⟨_, rfl, _, rfl, _, rfl, _, _, rfl, rfl, _, rfl, D, ys, rfl, SqL.of hB6, fun l1 g1 => ?_⟩
        have ek : ((k0 : Nat) : Int) + 1 = ((k0 + 1 : Nat) : Int) := by omega
        (try dsimp only)
        rw [ek, cut_to _ _ (by omega)]
        generalize x1 : upd C6 l1 _ = C7
        obtain ⟨s7, e7⟩ := got x1 g1
        refine ⟨small_len (by show 1 ≤ 100000; decide), fun l2 g2 => ?_⟩
        generalize x2 : upd C7 l2 _ = C8
        obtain ⟨s8, e8⟩ := got x2 g2
        refine ⟨l1, l2, _, _, rfl, rfl, s8 _ _ e7, e8, small_len (by rw [List.length_take]; show _ + 1 ≤ 100000; omega), fun l3 g3 => ?_⟩
        generalize x3 : upd C8 l3 _ = C9
        obtain ⟨s9, e9⟩ := got x3 g3
        have s69 := (s7.trans s8).trans s9
        refine ⟨_, rfl, q, _, rfl, .inl ⟨SqL.of (s69 _ _ hq6), fun t2 g4 => ?_⟩⟩
        generalize x4 : upd C9 t2 _ = D1
        obtain ⟨s10, e10⟩ := got x4 g4
        have s6d := s69.trans s10
        have rw7 := rw6.keep s6d
        refine ⟨p, l3, t2, h, rfl, hA6.keep s6d, ok, .inr ⟨F, rs.take (k0 + 1), ⟨true, zs, SqT.of e10, dz6.k (Kt.same s6d)⟩, fokF, false, ys.take (k0 + 1), [V.non], SqL.of (s10 _ _ e9), by rw [List.length_take, List.length_take, ly], by rw [List.length_append, List.length_take]; show _ + 1 ≤ 100; omega, fun i x ms hx hm => ?_, .inr ⟨k0, firstW_take (fr5.trans eo), fun D2 s11 => ?_⟩⟩⟩
        · have hi : i < k0 + 1 := by
            have := (List.getElem?_eq_some_iff.mp hx).1
            rw [List.length_take] at this
            omega
          rw [List.getElem?_take, if_pos hi] at hx hm
          obtain ⟨l1', a', e', h'⟩ := rw7.get i x ms hx hm
          exact ⟨a', e', .good (t := false) (SqL.of h') l1'⟩
        refine ⟨_, rfl, ?_⟩
        refine ne_like (opt_dp (some k0)) (opt_dp (some k0)) (fine_opt (n := 0) _) (by decide) ⟨_, rfl, ?_⟩
        refine iteF ?_
        have s611 := s6d.trans s11
        have hA7 := hA6.keep s611
        have bag7 := bag6.keep s611
        have pl7 : PlanAt K D2 u h := SqT.k pl6 (Kt.same s611)
        have hb7 := hb6.ks s611
        clear s7 s8 s9 s10 s11 s69 s6d e7 e8 e9 e10 rw7 hA6 bag6 pl6 hb6 rw6 dz6 hq6 hB6
        refine ⟨_, rfl, _, rfl, _, rfl, _, rfl, b, p, u, D, _, h, rs, rfl, bag7, by omega, pl7, ok, hA7, hb7, fun D3 bag8 but8 => ?_⟩
        refine ⟨_, rfl, iteF ?_⟩
        have hA8 := hA7.bt bag7 but8
        refine ⟨_, rfl, _, rfl, _, rfl, b, p, u, _, h, rfl, bag8, by omega, SqT.k pl7 (kt_bt bag7 but8), ok, hA8, fun D4 bag9 but9 => ?_⟩
        obtain ⟨dy, fy, ry, hy, y1, y2, _⟩ := hA8.bt bag8 but9
        refine ⟨_, rfl, iteT ⟨_, rfl, p, T.HC, dy, fy, _, rfl, hy, T.clHC, T.nRi, y2, _, rfl, rfl, ?_⟩⟩
        rw [decide_eq_true (show V.str (rgS h.l) = V.str (rgS h.l) from rfl)]
        exact k _
end
end K52

namespace K52
open PySem L2 Wm TL Dv PySem.W
theorem all_mk {l : PySem.W.OpenLaw} {w : World} {K : PySem.W.Frag} {h : Heap} {mg : Str → Option Value} {fa : Addr} (X : K.In h) (G : h.Ns mainGlobals mg) (hfa : mg "law" = some (.ref fa))
    {xC : Addr}
    (axC : PySem.W.nsIn K mainGlobals "Ring" = some (some (.ref xC)))
    {xH : Addr}
    (axH : PySem.W.nsIn K mainGlobals "House" = some (some (.ref xH)))
    {xP : Addr}
    (axP : PySem.W.nsIn K mainGlobals "Panel" = some (some (.ref xP)))
    {x_is_whole : Addr} {od_is_whole an_is_whole : Option Addr} {sl_is_whole : Array (Option Value)} {oc_is_whole dc_is_whole pm_is_whole cd_is_whole ct_is_whole : Value}
    {kV_is_whole : Value}
    (a_is_whole : PySem.W.nsIn K mainGlobals "is_whole" = some (some (.ref x_is_whole)))
    (l_is_whole : K.lookup x_is_whole = some ⟨oc_is_whole, od_is_whole, .func (PySem.W.fnOf "is_whole" "is_whole" (defArgs s_is_whole) (defBody s_is_whole) (defScope s_is_whole) .none kV_is_whole dc_is_whole pm_is_whole an_is_whole cd_is_whole ct_is_whole), sl_is_whole⟩)
    (c_is_whole : PySem.W.codeIn K cd_is_whole "is_whole" = true)
    (k_is_whole : PySem.W.keepIn K (.ref x_is_whole) = true)
    {x_is_whole_within : Addr} {od_is_whole_within an_is_whole_within : Option Addr} {sl_is_whole_within : Array (Option Value)} {oc_is_whole_within dc_is_whole_within pm_is_whole_within cd_is_whole_within ct_is_whole_within : Value}
    {kV_is_whole_within : Value}
    (a_is_whole_within : PySem.W.nsIn K mainGlobals "is_whole_within" = some (some (.ref x_is_whole_within)))
    (l_is_whole_within : K.lookup x_is_whole_within = some ⟨oc_is_whole_within, od_is_whole_within, .func (PySem.W.fnOf "is_whole_within" "is_whole_within" (defArgs s_is_whole_within) (defBody s_is_whole_within) (defScope s_is_whole_within) .none kV_is_whole_within dc_is_whole_within pm_is_whole_within an_is_whole_within cd_is_whole_within ct_is_whole_within), sl_is_whole_within⟩)
    (c_is_whole_within : PySem.W.codeIn K cd_is_whole_within "is_whole_within" = true)
    (k_is_whole_within : PySem.W.keepIn K (.ref x_is_whole_within) = true)
    {x_is_number : Addr} {od_is_number an_is_number : Option Addr} {sl_is_number : Array (Option Value)} {oc_is_number dc_is_number pm_is_number cd_is_number ct_is_number : Value}
    {kV_is_number : Value}
    (a_is_number : PySem.W.nsIn K mainGlobals "is_number" = some (some (.ref x_is_number)))
    (l_is_number : K.lookup x_is_number = some ⟨oc_is_number, od_is_number, .func (PySem.W.fnOf "is_number" "is_number" (defArgs s_is_number) (defBody s_is_number) (defScope s_is_number) .none kV_is_number dc_is_number pm_is_number an_is_number cd_is_number ct_is_number), sl_is_number⟩)
    (c_is_number : PySem.W.codeIn K cd_is_number "is_number" = true)
    (k_is_number : PySem.W.keepIn K (.ref x_is_number) = true)
    {x_is_ring_text : Addr} {od_is_ring_text an_is_ring_text : Option Addr} {sl_is_ring_text : Array (Option Value)} {oc_is_ring_text dc_is_ring_text pm_is_ring_text cd_is_ring_text ct_is_ring_text : Value}
    {kV_is_ring_text : Value}
    (a_is_ring_text : PySem.W.nsIn K mainGlobals "is_ring_text" = some (some (.ref x_is_ring_text)))
    (l_is_ring_text : K.lookup x_is_ring_text = some ⟨oc_is_ring_text, od_is_ring_text, .func (PySem.W.fnOf "is_ring_text" "is_ring_text" (defArgs s_is_ring_text) (defBody s_is_ring_text) (defScope s_is_ring_text) .none kV_is_ring_text dc_is_ring_text pm_is_ring_text an_is_ring_text cd_is_ring_text ct_is_ring_text), sl_is_ring_text⟩)
    (c_is_ring_text : PySem.W.codeIn K cd_is_ring_text "is_ring_text" = true)
    (k_is_ring_text : PySem.W.keepIn K (.ref x_is_ring_text) = true)
    {x_zones_of : Addr} {od_zones_of an_zones_of : Option Addr} {sl_zones_of : Array (Option Value)} {oc_zones_of dc_zones_of pm_zones_of cd_zones_of ct_zones_of : Value}
    {kV_zones_of : Value}
    (a_zones_of : PySem.W.nsIn K mainGlobals "zones_of" = some (some (.ref x_zones_of)))
    (l_zones_of : K.lookup x_zones_of = some ⟨oc_zones_of, od_zones_of, .func (PySem.W.fnOf "zones_of" "zones_of" (defArgs s_zones_of) (defBody s_zones_of) (defScope s_zones_of) .none kV_zones_of dc_zones_of pm_zones_of an_zones_of cd_zones_of ct_zones_of), sl_zones_of⟩)
    (c_zones_of : PySem.W.codeIn K cd_zones_of "zones_of" = true)
    (k_zones_of : PySem.W.keepIn K (.ref x_zones_of) = true)
    {x_init : Addr} {od_init an_init : Option Addr} {sl_init : Array (Option Value)} {oc_init dc_init pm_init cd_init ct_init : Value}
    {kV_init : Value}
    (a_init : PySem.W.findIn K (.ref xC) "__init__" = some (some (.ref x_init)))
    (i_init : PySem.W.isFn K (.ref x_init) = true)
    (l_init : K.lookup x_init = some ⟨oc_init, od_init, .func (PySem.W.fnOf "__init__" "Ring.__init__" (defArgs s_init) (defBody s_init) (defScope s_init) .none kV_init dc_init pm_init an_init cd_init ct_init), sl_init⟩)
    (c_init : PySem.W.codeIn K cd_init "Ring.__init__" = true)
    (k_init : PySem.W.keepIn K (.ref x_init) = true)
    {x_all_faults : Addr} {od_all_faults an_all_faults : Option Addr} {sl_all_faults : Array (Option Value)} {oc_all_faults dc_all_faults pm_all_faults cd_all_faults ct_all_faults : Value}
    {kV_all_faults : Value}
    (a_all_faults : PySem.W.findIn K (.ref xC) "all_faults" = some (some (.ref x_all_faults)))
    (i_all_faults : PySem.W.isFn K (.ref x_all_faults) = true)
    (l_all_faults : K.lookup x_all_faults = some ⟨oc_all_faults, od_all_faults, .func (PySem.W.fnOf "all_faults" "Ring.all_faults" (defArgs s_all_faults) (defBody s_all_faults) (defScope s_all_faults) .none kV_all_faults dc_all_faults pm_all_faults an_all_faults cd_all_faults ct_all_faults), sl_all_faults⟩)
    (c_all_faults : PySem.W.codeIn K cd_all_faults "Ring.all_faults" = true)
    (k_all_faults : PySem.W.keepIn K (.ref x_all_faults) = true)
    {x_check_fault : Addr} {od_check_fault an_check_fault : Option Addr} {sl_check_fault : Array (Option Value)} {oc_check_fault dc_check_fault pm_check_fault cd_check_fault ct_check_fault : Value}
    {kV_check_fault : Value}
    (a_check_fault : PySem.W.findIn K (.ref xC) "check_fault" = some (some (.ref x_check_fault)))
    (i_check_fault : PySem.W.isFn K (.ref x_check_fault) = true)
    (l_check_fault : K.lookup x_check_fault = some ⟨oc_check_fault, od_check_fault, .func (PySem.W.fnOf "check_fault" "Ring.check_fault" (defArgs s_check_fault) (defBody s_check_fault) (defScope s_check_fault) .none kV_check_fault dc_check_fault pm_check_fault an_check_fault cd_check_fault ct_check_fault), sl_check_fault⟩)
    (c_check_fault : PySem.W.codeIn K cd_check_fault "Ring.check_fault" = true)
    (k_check_fault : PySem.W.keepIn K (.ref x_check_fault) = true)
    {x_check_faults : Addr} {od_check_faults an_check_faults : Option Addr} {sl_check_faults : Array (Option Value)} {oc_check_faults dc_check_faults pm_check_faults cd_check_faults ct_check_faults : Value}
    {kV_check_faults : Value}
    (a_check_faults : PySem.W.findIn K (.ref xC) "check_faults" = some (some (.ref x_check_faults)))
    (i_check_faults : PySem.W.isFn K (.ref x_check_faults) = true)
    (l_check_faults : K.lookup x_check_faults = some ⟨oc_check_faults, od_check_faults, .func (PySem.W.fnOf "check_faults" "Ring.check_faults" (defArgs s_check_faults) (defBody s_check_faults) (defScope s_check_faults) .none kV_check_faults dc_check_faults pm_check_faults an_check_faults cd_check_faults ct_check_faults), sl_check_faults⟩)
    (c_check_faults : PySem.W.codeIn K cd_check_faults "Ring.check_faults" = true)
    (k_check_faults : PySem.W.keepIn K (.ref x_check_faults) = true)
    {x_zone_of : Addr} {od_zone_of an_zone_of : Option Addr} {sl_zone_of : Array (Option Value)} {oc_zone_of dc_zone_of pm_zone_of cd_zone_of ct_zone_of : Value}
    {kV_zone_of : Value}
    (a_zone_of : PySem.W.findIn K (.ref xC) "zone_of" = some (some (.ref x_zone_of)))
    (i_zone_of : PySem.W.isFn K (.ref x_zone_of) = true)
    (l_zone_of : K.lookup x_zone_of = some ⟨oc_zone_of, od_zone_of, .func (PySem.W.fnOf "zone_of" "Ring.zone_of" (defArgs s_zone_of) (defBody s_zone_of) (defScope s_zone_of) .none kV_zone_of dc_zone_of pm_zone_of an_zone_of cd_zone_of ct_zone_of), sl_zone_of⟩)
    (c_zone_of : PySem.W.codeIn K cd_zone_of "Ring.zone_of" = true)
    (k_zone_of : PySem.W.keepIn K (.ref x_zone_of) = true)
    {x_closed_stretches : Addr} {od_closed_stretches an_closed_stretches : Option Addr} {sl_closed_stretches : Array (Option Value)} {oc_closed_stretches dc_closed_stretches pm_closed_stretches cd_closed_stretches ct_closed_stretches : Value}
    {kV_closed_stretches : Value}
    (a_closed_stretches : PySem.W.findIn K (.ref xC) "closed_stretches" = some (some (.ref x_closed_stretches)))
    (i_closed_stretches : PySem.W.isFn K (.ref x_closed_stretches) = true)
    (l_closed_stretches : K.lookup x_closed_stretches = some ⟨oc_closed_stretches, od_closed_stretches, .func (PySem.W.fnOf "closed_stretches" "Ring.closed_stretches" (defArgs s_closed_stretches) (defBody s_closed_stretches) (defScope s_closed_stretches) .none kV_closed_stretches dc_closed_stretches pm_closed_stretches an_closed_stretches cd_closed_stretches ct_closed_stretches), sl_closed_stretches⟩)
    (c_closed_stretches : PySem.W.codeIn K cd_closed_stretches "Ring.closed_stretches" = true)
    (k_closed_stretches : PySem.W.keepIn K (.ref x_closed_stretches) = true)
    {x_passed_from : Addr} {od_passed_from an_passed_from : Option Addr} {sl_passed_from : Array (Option Value)} {oc_passed_from dc_passed_from pm_passed_from cd_passed_from ct_passed_from : Value}
    {kV_passed_from : Value}
    (a_passed_from : PySem.W.findIn K (.ref xC) "passed_from" = some (some (.ref x_passed_from)))
    (i_passed_from : PySem.W.isFn K (.ref x_passed_from) = true)
    (l_passed_from : K.lookup x_passed_from = some ⟨oc_passed_from, od_passed_from, .func (PySem.W.fnOf "passed_from" "Ring.passed_from" (defArgs s_passed_from) (defBody s_passed_from) (defScope s_passed_from) .none kV_passed_from dc_passed_from pm_passed_from an_passed_from cd_passed_from ct_passed_from), sl_passed_from⟩)
    (c_passed_from : PySem.W.codeIn K cd_passed_from "Ring.passed_from" = true)
    (k_passed_from : PySem.W.keepIn K (.ref x_passed_from) = true)
    {x_reached : Addr} {od_reached an_reached : Option Addr} {sl_reached : Array (Option Value)} {oc_reached dc_reached pm_reached cd_reached ct_reached : Value}
    {kV_reached : Value}
    (a_reached : PySem.W.findIn K (.ref xC) "reached" = some (some (.ref x_reached)))
    (i_reached : PySem.W.isFn K (.ref x_reached) = true)
    (l_reached : K.lookup x_reached = some ⟨oc_reached, od_reached, .func (PySem.W.fnOf "reached" "Ring.reached" (defArgs s_reached) (defBody s_reached) (defScope s_reached) .none kV_reached dc_reached pm_reached an_reached cd_reached ct_reached), sl_reached⟩)
    (c_reached : PySem.W.codeIn K cd_reached "Ring.reached" = true)
    (k_reached : PySem.W.keepIn K (.ref x_reached) = true)
    {x_hinit : Addr} {od_hinit an_hinit : Option Addr} {sl_hinit : Array (Option Value)} {oc_hinit dc_hinit pm_hinit cd_hinit ct_hinit : Value}
    {xD : Addr} {tD : Tok}
    (a_hinit : PySem.W.findIn K (.ref xH) "__init__" = some (some (.ref x_hinit)))
    (i_hinit : PySem.W.isFn K (.ref x_hinit) = true)
    (l_hinit : K.lookup x_hinit = some ⟨oc_hinit, od_hinit, .func (PySem.W.fnOf "__init__" "House.__init__" (defArgs s_hinit) (defBody s_hinit) (defScope s_hinit) .none (.ref xD) dc_hinit pm_hinit an_hinit cd_hinit ct_hinit), sl_hinit⟩)
    (c_hinit : PySem.W.codeIn K cd_hinit "House.__init__" = true)
    (k_hinit : PySem.W.keepIn K (.ref x_hinit) = true)
    (e_hinit : PySem.W.nsIn K xD "need" = some (some (.int 1 tD)))
    {x_heq : Addr} {od_heq an_heq : Option Addr} {sl_heq : Array (Option Value)} {oc_heq dc_heq pm_heq cd_heq ct_heq : Value}
    {kV_heq : Value}
    (a_heq : PySem.W.findIn K (.ref xH) "__eq__" = some (some (.ref x_heq)))
    (i_heq : PySem.W.isFn K (.ref x_heq) = true)
    (l_heq : K.lookup x_heq = some ⟨oc_heq, od_heq, .func (PySem.W.fnOf "__eq__" "House.__eq__" (defArgs s_heq) (defBody s_heq) (defScope s_heq) .none kV_heq dc_heq pm_heq an_heq cd_heq ct_heq), sl_heq⟩)
    (c_heq : PySem.W.codeIn K cd_heq "House.__eq__" = true)
    (k_heq : PySem.W.keepIn K (.ref x_heq) = true)
    {x_is_silent : Addr} {od_is_silent an_is_silent : Option Addr} {sl_is_silent : Array (Option Value)} {oc_is_silent dc_is_silent pm_is_silent cd_is_silent ct_is_silent : Value}
    {kV_is_silent : Value}
    (a_is_silent : PySem.W.findIn K (.ref xH) "is_silent" = some (some (.ref x_is_silent)))
    (i_is_silent : PySem.W.isFn K (.ref x_is_silent) = true)
    (l_is_silent : K.lookup x_is_silent = some ⟨oc_is_silent, od_is_silent, .func (PySem.W.fnOf "is_silent" "House.is_silent" (defArgs s_is_silent) (defBody s_is_silent) (defScope s_is_silent) .none kV_is_silent dc_is_silent pm_is_silent an_is_silent cd_is_silent ct_is_silent), sl_is_silent⟩)
    (c_is_silent : PySem.W.codeIn K cd_is_silent "House.is_silent" = true)
    (k_is_silent : PySem.W.keepIn K (.ref x_is_silent) = true)
    {x_set_faults : Addr} {od_set_faults an_set_faults : Option Addr} {sl_set_faults : Array (Option Value)} {oc_set_faults dc_set_faults pm_set_faults cd_set_faults ct_set_faults : Value}
    {kV_set_faults : Value}
    (a_set_faults : PySem.W.findIn K (.ref xP) "set_faults" = some (some (.ref x_set_faults)))
    (i_set_faults : PySem.W.isFn K (.ref x_set_faults) = true)
    (l_set_faults : K.lookup x_set_faults = some ⟨oc_set_faults, od_set_faults, .func (PySem.W.fnOf "set_faults" "Panel.set_faults" (defArgs s_set_faults) (defBody s_set_faults) (defScope s_set_faults) .none kV_set_faults dc_set_faults pm_set_faults an_set_faults cd_set_faults ct_set_faults), sl_set_faults⟩)
    (c_set_faults : PySem.W.codeIn K cd_set_faults "Panel.set_faults" = true)
    (k_set_faults : PySem.W.keepIn K (.ref x_set_faults) = true)
    {x_reset : Addr} {od_reset an_reset : Option Addr} {sl_reset : Array (Option Value)} {oc_reset dc_reset pm_reset cd_reset ct_reset : Value}
    {kV_reset : Value}
    (a_reset : PySem.W.findIn K (.ref xP) "reset" = some (some (.ref x_reset)))
    (i_reset : PySem.W.isFn K (.ref x_reset) = true)
    (l_reset : K.lookup x_reset = some ⟨oc_reset, od_reset, .func (PySem.W.fnOf "reset" "Panel.reset" (defArgs s_reset) (defBody s_reset) (defScope s_reset) .none kV_reset dc_reset pm_reset an_reset cd_reset ct_reset), sl_reset⟩)
    (c_reset : PySem.W.codeIn K cd_reset "Panel.reset" = true)
    (k_reset : PySem.W.keepIn K (.ref x_reset) = true)
    {x_pinit : Addr} {od_pinit an_pinit : Option Addr} {sl_pinit : Array (Option Value)} {oc_pinit dc_pinit pm_pinit cd_pinit ct_pinit : Value}
    {kV_pinit : Value}
    (a_pinit : PySem.W.findIn K (.ref xP) "__init__" = some (some (.ref x_pinit)))
    (i_pinit : PySem.W.isFn K (.ref x_pinit) = true)
    (l_pinit : K.lookup x_pinit = some ⟨oc_pinit, od_pinit, .func (PySem.W.fnOf "__init__" "Panel.__init__" (defArgs s_pinit) (defBody s_pinit) (defScope s_pinit) .none kV_pinit dc_pinit pm_pinit an_pinit cd_pinit ct_pinit), sl_pinit⟩)
    (c_pinit : PySem.W.codeIn K cd_pinit "Panel.__init__" = true)
    (k_pinit : PySem.W.keepIn K (.ref x_pinit) = true)
    {x_put_fault : Addr} {od_put_fault an_put_fault : Option Addr} {sl_put_fault : Array (Option Value)} {oc_put_fault dc_put_fault pm_put_fault cd_put_fault ct_put_fault : Value}
    {kV_put_fault : Value}
    (a_put_fault : PySem.W.findIn K (.ref xP) "put_fault" = some (some (.ref x_put_fault)))
    (i_put_fault : PySem.W.isFn K (.ref x_put_fault) = true)
    (l_put_fault : K.lookup x_put_fault = some ⟨oc_put_fault, od_put_fault, .func (PySem.W.fnOf "put_fault" "Panel.put_fault" (defArgs s_put_fault) (defBody s_put_fault) (defScope s_put_fault) .none kV_put_fault dc_put_fault pm_put_fault an_put_fault cd_put_fault ct_put_fault), sl_put_fault⟩)
    (c_put_fault : PySem.W.codeIn K cd_put_fault "Panel.put_fault" = true)
    (k_put_fault : PySem.W.keepIn K (.ref x_put_fault) = true)
    {x_mend_fault : Addr} {od_mend_fault an_mend_fault : Option Addr} {sl_mend_fault : Array (Option Value)} {oc_mend_fault dc_mend_fault pm_mend_fault cd_mend_fault ct_mend_fault : Value}
    {kV_mend_fault : Value}
    (a_mend_fault : PySem.W.findIn K (.ref xP) "mend_fault" = some (some (.ref x_mend_fault)))
    (i_mend_fault : PySem.W.isFn K (.ref x_mend_fault) = true)
    (l_mend_fault : K.lookup x_mend_fault = some ⟨oc_mend_fault, od_mend_fault, .func (PySem.W.fnOf "mend_fault" "Panel.mend_fault" (defArgs s_mend_fault) (defBody s_mend_fault) (defScope s_mend_fault) .none kV_mend_fault dc_mend_fault pm_mend_fault an_mend_fault cd_mend_fault ct_mend_fault), sl_mend_fault⟩)
    (c_mend_fault : PySem.W.codeIn K cd_mend_fault "Panel.mend_fault" = true)
    (k_mend_fault : PySem.W.keepIn K (.ref x_mend_fault) = true)
    {x_check_levels : Addr} {od_check_levels an_check_levels : Option Addr} {sl_check_levels : Array (Option Value)} {oc_check_levels dc_check_levels pm_check_levels cd_check_levels ct_check_levels : Value}
    {kV_check_levels : Value}
    (a_check_levels : PySem.W.nsIn K mainGlobals "check_levels" = some (some (.ref x_check_levels)))
    (l_check_levels : K.lookup x_check_levels = some ⟨oc_check_levels, od_check_levels, .func (PySem.W.fnOf "check_levels" "check_levels" (defArgs s_check_levels) (defBody s_check_levels) (defScope s_check_levels) .none kV_check_levels dc_check_levels pm_check_levels an_check_levels cd_check_levels ct_check_levels), sl_check_levels⟩)
    (c_check_levels : PySem.W.codeIn K cd_check_levels "check_levels" = true)
    (k_check_levels : PySem.W.keepIn K (.ref x_check_levels) = true)
    {x_count_behind : Addr} {od_count_behind an_count_behind : Option Addr} {sl_count_behind : Array (Option Value)} {oc_count_behind dc_count_behind pm_count_behind cd_count_behind ct_count_behind : Value}
    {kV_count_behind : Value}
    (a_count_behind : PySem.W.findIn K (.ref xP) "count_behind" = some (some (.ref x_count_behind)))
    (i_count_behind : PySem.W.isFn K (.ref x_count_behind) = true)
    (l_count_behind : K.lookup x_count_behind = some ⟨oc_count_behind, od_count_behind, .func (PySem.W.fnOf "count_behind" "Panel.count_behind" (defArgs s_count_behind) (defBody s_count_behind) (defScope s_count_behind) .none kV_count_behind dc_count_behind pm_count_behind an_count_behind cd_count_behind ct_count_behind), sl_count_behind⟩)
    (c_count_behind : PySem.W.codeIn K cd_count_behind "Panel.count_behind" = true)
    (k_count_behind : PySem.W.keepIn K (.ref x_count_behind) = true)
    {x_beat : Addr} {od_beat an_beat : Option Addr} {sl_beat : Array (Option Value)} {oc_beat dc_beat pm_beat cd_beat ct_beat : Value}
    {kV_beat : Value}
    (a_beat : PySem.W.findIn K (.ref xP) "beat" = some (some (.ref x_beat)))
    (i_beat : PySem.W.isFn K (.ref x_beat) = true)
    (l_beat : K.lookup x_beat = some ⟨oc_beat, od_beat, .func (PySem.W.fnOf "beat" "Panel.beat" (defArgs s_beat) (defBody s_beat) (defScope s_beat) .none kV_beat dc_beat pm_beat an_beat cd_beat ct_beat), sl_beat⟩)
    (c_beat : PySem.W.codeIn K cd_beat "Panel.beat" = true)
    (k_beat : PySem.W.keepIn K (.ref x_beat) = true)
    {x_copied : Addr} {od_copied an_copied : Option Addr} {sl_copied : Array (Option Value)} {oc_copied dc_copied pm_copied cd_copied ct_copied : Value}
    {kV_copied : Value}
    (a_copied : PySem.W.findIn K (.ref xP) "copied" = some (some (.ref x_copied)))
    (i_copied : PySem.W.isFn K (.ref x_copied) = true)
    (l_copied : K.lookup x_copied = some ⟨oc_copied, od_copied, .func (PySem.W.fnOf "copied" "Panel.copied" (defArgs s_copied) (defBody s_copied) (defScope s_copied) .none kV_copied dc_copied pm_copied an_copied cd_copied ct_copied), sl_copied⟩)
    (c_copied : PySem.W.codeIn K cd_copied "Panel.copied" = true)
    (k_copied : PySem.W.keepIn K (.ref x_copied) = true)
    {x_tried : Addr} {od_tried an_tried : Option Addr} {sl_tried : Array (Option Value)} {oc_tried dc_tried pm_tried cd_tried ct_tried : Value}
    {kV_tried : Value}
    (a_tried : PySem.W.nsIn K mainGlobals "tried" = some (some (.ref x_tried)))
    (l_tried : K.lookup x_tried = some ⟨oc_tried, od_tried, .func (PySem.W.fnOf "tried" "tried" (defArgs s_tried) (defBody s_tried) (defScope s_tried) .none kV_tried dc_tried pm_tried an_tried cd_tried ct_tried), sl_tried⟩)
    (c_tried : PySem.W.codeIn K cd_tried "tried" = true)
    (k_tried : PySem.W.keepIn K (.ref x_tried) = true)
    {x_first_warning : Addr} {od_first_warning an_first_warning : Option Addr} {sl_first_warning : Array (Option Value)} {oc_first_warning dc_first_warning pm_first_warning cd_first_warning ct_first_warning : Value}
    {kV_first_warning : Value}
    {xTF xEF : Addr} {ocTF : Value} {odTF : Option Addr} {nTF nEF : Nat} {slTF slEF : Array (Option Value)} {odEF : Option Addr}
    (a_first_warning : PySem.W.nsIn K mainGlobals "first_warning" = some (some (.ref x_first_warning)))
    (l_first_warning : K.lookup x_first_warning = some ⟨oc_first_warning, od_first_warning, .func (PySem.W.fnOf "first_warning" "first_warning" (defArgs s_first_warning) (defBody s_first_warning) (defScope s_first_warning) (.ref xTF) kV_first_warning dc_first_warning pm_first_warning an_first_warning cd_first_warning ct_first_warning), sl_first_warning⟩)
    (c_first_warning : PySem.W.codeIn K cd_first_warning "first_warning" = true)
    (k_first_warning : PySem.W.keepIn K (.ref x_first_warning) = true)
    (w_tF : K.lookup xTF = some ⟨ocTF, odTF, .seq #[.ref xEF] nTF, slTF⟩)
    (w_eF : K.lookup xEF = some ⟨.type "tuple", odEF, .seq #[] nEF, slEF⟩)
    {x_false_levels : Addr} {od_false_levels an_false_levels : Option Addr} {sl_false_levels : Array (Option Value)} {oc_false_levels dc_false_levels pm_false_levels cd_false_levels ct_false_levels : Value}
    {kV_false_levels : Value}
    {xTL xEL : Addr} {ocTL : Value} {odTL : Option Addr} {nTL nEL : Nat} {slTL slEL : Array (Option Value)} {odEL : Option Addr}
    (a_false_levels : PySem.W.nsIn K mainGlobals "false_levels" = some (some (.ref x_false_levels)))
    (l_false_levels : K.lookup x_false_levels = some ⟨oc_false_levels, od_false_levels, .func (PySem.W.fnOf "false_levels" "false_levels" (defArgs s_false_levels) (defBody s_false_levels) (defScope s_false_levels) (.ref xTL) kV_false_levels dc_false_levels pm_false_levels an_false_levels cd_false_levels ct_false_levels), sl_false_levels⟩)
    (c_false_levels : PySem.W.codeIn K cd_false_levels "false_levels" = true)
    (k_false_levels : PySem.W.keepIn K (.ref x_false_levels) = true)
    (w_tL : K.lookup xTL = some ⟨ocTL, odTL, .seq #[.ref xEL] nTL, slTL⟩)
    (w_eL : K.lookup xEL = some ⟨.type "tuple", odEL, .seq #[] nEL, slEL⟩)
    {x_open : Addr} {od_open an_open : Option Addr} {sl_open : Array (Option Value)} {oc_open dc_open pm_open cd_open ct_open : Value}
    {kV_open : Value}
    (a_open : PySem.W.nsIn K mainGlobals "_law_open" = some (some (.ref x_open)))
    (l_open : K.lookup x_open = some ⟨oc_open, od_open, .func (PySem.W.fnOf "_law_open" "_law_open" (defArgs s_open) (defBody s_open) (defScope s_open) .none kV_open dc_open pm_open an_open cd_open ct_open), sl_open⟩)
    (c_open : PySem.W.codeIn K cd_open "_law_open" = true)
    (k_open : PySem.W.keepIn K (.ref x_open) = true)
    {x_draw : Addr} {od_draw an_draw : Option Addr} {sl_draw : Array (Option Value)} {oc_draw dc_draw pm_draw cd_draw ct_draw : Value}
    {kV_draw : Value}
    (a_draw : PySem.W.nsIn K mainGlobals "_law_draw" = some (some (.ref x_draw)))
    (l_draw : K.lookup x_draw = some ⟨oc_draw, od_draw, .func (PySem.W.fnOf "_law_draw" "_law_draw" (defArgs s_draw) (defBody s_draw) (defScope s_draw) .none kV_draw dc_draw pm_draw an_draw cd_draw ct_draw), sl_draw⟩)
    (c_draw : PySem.W.codeIn K cd_draw "_law_draw" = true)
    (k_draw : PySem.W.keepIn K (.ref x_draw) = true)
    {x_text : Addr} {od_text an_text : Option Addr} {sl_text : Array (Option Value)} {oc_text dc_text pm_text cd_text ct_text : Value}
    {kV_text : Value}
    (a_text : PySem.W.nsIn K mainGlobals "_law_text" = some (some (.ref x_text)))
    (l_text : K.lookup x_text = some ⟨oc_text, od_text, .func (PySem.W.fnOf "_law_text" "_law_text" (defArgs s_text) (defBody s_text) (defScope s_text) .none kV_text dc_text pm_text an_text cd_text ct_text), sl_text⟩)
    (c_text : PySem.W.codeIn K cd_text "_law_text" = true)
    (k_text : PySem.W.keepIn K (.ref x_text) = true)
    {x_faults : Addr} {od_faults an_faults : Option Addr} {sl_faults : Array (Option Value)} {oc_faults dc_faults pm_faults cd_faults ct_faults : Value}
    {kV_faults : Value}
    (a_faults : PySem.W.nsIn K mainGlobals "_law_faults" = some (some (.ref x_faults)))
    (l_faults : K.lookup x_faults = some ⟨oc_faults, od_faults, .func (PySem.W.fnOf "_law_faults" "_law_faults" (defArgs s_faults) (defBody s_faults) (defScope s_faults) .none kV_faults dc_faults pm_faults an_faults cd_faults ct_faults), sl_faults⟩)
    (c_faults : PySem.W.codeIn K cd_faults "_law_faults" = true)
    (k_faults : PySem.W.keepIn K (.ref x_faults) = true)
    {x_zone : Addr} {od_zone an_zone : Option Addr} {sl_zone : Array (Option Value)} {oc_zone dc_zone pm_zone cd_zone ct_zone : Value}
    {kV_zone : Value}
    (a_zone : PySem.W.nsIn K mainGlobals "_law_zone" = some (some (.ref x_zone)))
    (l_zone : K.lookup x_zone = some ⟨oc_zone, od_zone, .func (PySem.W.fnOf "_law_zone" "_law_zone" (defArgs s_zone) (defBody s_zone) (defScope s_zone) .none kV_zone dc_zone pm_zone an_zone cd_zone ct_zone), sl_zone⟩)
    (c_zone : PySem.W.codeIn K cd_zone "_law_zone" = true)
    (k_zone : PySem.W.keepIn K (.ref x_zone) = true)
    {x_open_at : Addr} {od_open_at an_open_at : Option Addr} {sl_open_at : Array (Option Value)} {oc_open_at dc_open_at pm_open_at cd_open_at ct_open_at : Value}
    {kV_open_at : Value}
    (a_open_at : PySem.W.nsIn K mainGlobals "_law_open_at" = some (some (.ref x_open_at)))
    (l_open_at : K.lookup x_open_at = some ⟨oc_open_at, od_open_at, .func (PySem.W.fnOf "_law_open_at" "_law_open_at" (defArgs s_open_at) (defBody s_open_at) (defScope s_open_at) .none kV_open_at dc_open_at pm_open_at an_open_at cd_open_at ct_open_at), sl_open_at⟩)
    (c_open_at : PySem.W.codeIn K cd_open_at "_law_open_at" = true)
    (k_open_at : PySem.W.keepIn K (.ref x_open_at) = true)
    {x_passed : Addr} {od_passed an_passed : Option Addr} {sl_passed : Array (Option Value)} {oc_passed dc_passed pm_passed cd_passed ct_passed : Value}
    {kV_passed : Value}
    (a_passed : PySem.W.nsIn K mainGlobals "_law_passed" = some (some (.ref x_passed)))
    (l_passed : K.lookup x_passed = some ⟨oc_passed, od_passed, .func (PySem.W.fnOf "_law_passed" "_law_passed" (defArgs s_passed) (defBody s_passed) (defScope s_passed) .none kV_passed dc_passed pm_passed an_passed cd_passed ct_passed), sl_passed⟩)
    (c_passed : PySem.W.codeIn K cd_passed "_law_passed" = true)
    (k_passed : PySem.W.keepIn K (.ref x_passed) = true)
    {x_spots : Addr} {od_spots an_spots : Option Addr} {sl_spots : Array (Option Value)} {oc_spots dc_spots pm_spots cd_spots ct_spots : Value}
    {kV_spots : Value}
    (a_spots : PySem.W.nsIn K mainGlobals "_law_spots" = some (some (.ref x_spots)))
    (l_spots : K.lookup x_spots = some ⟨oc_spots, od_spots, .func (PySem.W.fnOf "_law_spots" "_law_spots" (defArgs s_spots) (defBody s_spots) (defScope s_spots) .none kV_spots dc_spots pm_spots an_spots cd_spots ct_spots), sl_spots⟩)
    (c_spots : PySem.W.codeIn K cd_spots "_law_spots" = true)
    (k_spots : PySem.W.keepIn K (.ref x_spots) = true)
    {x_heard : Addr} {od_heard an_heard : Option Addr} {sl_heard : Array (Option Value)} {oc_heard dc_heard pm_heard cd_heard ct_heard : Value}
    {kV_heard : Value}
    (a_heard : PySem.W.nsIn K mainGlobals "_law_heard" = some (some (.ref x_heard)))
    (l_heard : K.lookup x_heard = some ⟨oc_heard, od_heard, .func (PySem.W.fnOf "_law_heard" "_law_heard" (defArgs s_heard) (defBody s_heard) (defScope s_heard) .none kV_heard dc_heard pm_heard an_heard cd_heard ct_heard), sl_heard⟩)
    (c_heard : PySem.W.codeIn K cd_heard "_law_heard" = true)
    (k_heard : PySem.W.keepIn K (.ref x_heard) = true)
    {x_levels : Addr} {od_levels an_levels : Option Addr} {sl_levels : Array (Option Value)} {oc_levels dc_levels pm_levels cd_levels ct_levels : Value}
    {kV_levels : Value}
    (a_levels : PySem.W.nsIn K mainGlobals "_law_levels" = some (some (.ref x_levels)))
    (l_levels : K.lookup x_levels = some ⟨oc_levels, od_levels, .func (PySem.W.fnOf "_law_levels" "_law_levels" (defArgs s_levels) (defBody s_levels) (defScope s_levels) .none kV_levels dc_levels pm_levels an_levels cd_levels ct_levels), sl_levels⟩)
    (c_levels : PySem.W.codeIn K cd_levels "_law_levels" = true)
    (k_levels : PySem.W.keepIn K (.ref x_levels) = true)
    {x_step : Addr} {od_step an_step : Option Addr} {sl_step : Array (Option Value)} {oc_step dc_step pm_step cd_step ct_step : Value}
    {kV_step : Value}
    (a_step : PySem.W.nsIn K mainGlobals "_law_step" = some (some (.ref x_step)))
    (l_step : K.lookup x_step = some ⟨oc_step, od_step, .func (PySem.W.fnOf "_law_step" "_law_step" (defArgs s_step) (defBody s_step) (defScope s_step) .none kV_step dc_step pm_step an_step cd_step ct_step), sl_step⟩)
    (c_step : PySem.W.codeIn K cd_step "_law_step" = true)
    (k_step : PySem.W.keepIn K (.ref x_step) = true)
    {x_ordered : Addr} {od_ordered an_ordered : Option Addr} {sl_ordered : Array (Option Value)} {oc_ordered dc_ordered pm_ordered cd_ordered ct_ordered : Value}
    {kV_ordered : Value}
    (a_ordered : PySem.W.nsIn K mainGlobals "_law_ordered" = some (some (.ref x_ordered)))
    (l_ordered : K.lookup x_ordered = some ⟨oc_ordered, od_ordered, .func (PySem.W.fnOf "_law_ordered" "_law_ordered" (defArgs s_ordered) (defBody s_ordered) (defScope s_ordered) .none kV_ordered dc_ordered pm_ordered an_ordered cd_ordered ct_ordered), sl_ordered⟩)
    (c_ordered : PySem.W.codeIn K cd_ordered "_law_ordered" = true)
    (k_ordered : PySem.W.keepIn K (.ref x_ordered) = true)
    {x_same : Addr} {od_same an_same : Option Addr} {sl_same : Array (Option Value)} {oc_same dc_same pm_same cd_same ct_same : Value}
    {kV_same : Value}
    (a_same : PySem.W.nsIn K mainGlobals "_law_same" = some (some (.ref x_same)))
    (l_same : K.lookup x_same = some ⟨oc_same, od_same, .func (PySem.W.fnOf "_law_same" "_law_same" (defArgs s_same) (defBody s_same) (defScope s_same) .none kV_same dc_same pm_same an_same cd_same ct_same), sl_same⟩)
    (c_same : PySem.W.codeIn K cd_same "_law_same" = true)
    (k_same : PySem.W.keepIn K (.ref x_same) = true)
    {x_run : Addr} {od_run an_run : Option Addr} {sl_run : Array (Option Value)} {oc_run dc_run pm_run cd_run ct_run : Value}
    {kV_run : Value}
    (a_run : PySem.W.nsIn K mainGlobals "_law_run" = some (some (.ref x_run)))
    (l_run : K.lookup x_run = some ⟨oc_run, od_run, .func (PySem.W.fnOf "_law_run" "_law_run" (defArgs s_run) (defBody s_run) (defScope s_run) .none kV_run dc_run pm_run an_run cd_run ct_run), sl_run⟩)
    (c_run : PySem.W.codeIn K cd_run "_law_run" = true)
    (k_run : PySem.W.keepIn K (.ref x_run) = true)
    {x_ltried : Addr} {od_ltried an_ltried : Option Addr} {sl_ltried : Array (Option Value)} {oc_ltried dc_ltried pm_ltried cd_ltried ct_ltried : Value}
    {kV_ltried : Value}
    (a_ltried : PySem.W.nsIn K mainGlobals "_law_tried" = some (some (.ref x_ltried)))
    (l_ltried : K.lookup x_ltried = some ⟨oc_ltried, od_ltried, .func (PySem.W.fnOf "_law_tried" "_law_tried" (defArgs s_ltried) (defBody s_ltried) (defScope s_ltried) .none kV_ltried dc_ltried pm_ltried an_ltried cd_ltried ct_ltried), sl_ltried⟩)
    (c_ltried : PySem.W.codeIn K cd_ltried "_law_tried" = true)
    (k_ltried : PySem.W.keepIn K (.ref x_ltried) = true)
    {x_trial : Addr} {od_trial an_trial : Option Addr} {sl_trial : Array (Option Value)} {oc_trial dc_trial pm_trial cd_trial ct_trial : Value}
    {kV_trial : Value}
    (a_trial : PySem.W.nsIn K mainGlobals "_law_trial" = some (some (.ref x_trial)))
    (l_trial : K.lookup x_trial = some ⟨oc_trial, od_trial, .func (PySem.W.fnOf "_law_trial" "_law_trial" (defArgs s_trial) (defBody s_trial) (defScope s_trial) .none kV_trial dc_trial pm_trial an_trial cd_trial ct_trial), sl_trial⟩)
    (c_trial : PySem.W.codeIn K cd_trial "_law_trial" = true)
    (k_trial : PySem.W.keepIn K (.ref x_trial) = true)
    {x_wrong : Addr} {od_wrong an_wrong : Option Addr} {sl_wrong : Array (Option Value)} {oc_wrong dc_wrong pm_wrong cd_wrong ct_wrong : Value}
    {kV_wrong : Value}
    (a_wrong : PySem.W.nsIn K mainGlobals "_law_wrong" = some (some (.ref x_wrong)))
    (l_wrong : K.lookup x_wrong = some ⟨oc_wrong, od_wrong, .func (PySem.W.fnOf "_law_wrong" "_law_wrong" (defArgs s_wrong) (defBody s_wrong) (defScope s_wrong) .none kV_wrong dc_wrong pm_wrong an_wrong cd_wrong ct_wrong), sl_wrong⟩)
    (c_wrong : PySem.W.codeIn K cd_wrong "_law_wrong" = true)
    (k_wrong : PySem.W.keepIn K (.ref x_wrong) = true)
    {x_mended : Addr} {od_mended an_mended : Option Addr} {sl_mended : Array (Option Value)} {oc_mended dc_mended pm_mended cd_mended ct_mended : Value}
    {kV_mended : Value}
    (a_mended : PySem.W.nsIn K mainGlobals "_law_mended" = some (some (.ref x_mended)))
    (l_mended : K.lookup x_mended = some ⟨oc_mended, od_mended, .func (PySem.W.fnOf "_law_mended" "_law_mended" (defArgs s_mended) (defBody s_mended) (defScope s_mended) .none kV_mended dc_mended pm_mended an_mended cd_mended ct_mended), sl_mended⟩)
    (c_mended : PySem.W.codeIn K cd_mended "_law_mended" = true)
    (k_mended : PySem.W.keepIn K (.ref x_mended) = true)
    {x_deed : Addr} {od_deed an_deed : Option Addr} {sl_deed : Array (Option Value)} {oc_deed dc_deed pm_deed cd_deed ct_deed : Value}
    {kV_deed : Value}
    (a_deed : PySem.W.nsIn K mainGlobals "_law_deed" = some (some (.ref x_deed)))
    (l_deed : K.lookup x_deed = some ⟨oc_deed, od_deed, .func (PySem.W.fnOf "_law_deed" "_law_deed" (defArgs s_deed) (defBody s_deed) (defScope s_deed) .none kV_deed dc_deed pm_deed an_deed cd_deed ct_deed), sl_deed⟩)
    (c_deed : PySem.W.codeIn K cd_deed "_law_deed" = true)
    (k_deed : PySem.W.keepIn K (.ref x_deed) = true)
    {x_silent : Addr} {od_silent an_silent : Option Addr} {sl_silent : Array (Option Value)} {oc_silent dc_silent pm_silent cd_silent ct_silent : Value}
    {kV_silent : Value}
    (a_silent : PySem.W.nsIn K mainGlobals "_law_silent" = some (some (.ref x_silent)))
    (l_silent : K.lookup x_silent = some ⟨oc_silent, od_silent, .func (PySem.W.fnOf "_law_silent" "_law_silent" (defArgs s_silent) (defBody s_silent) (defScope s_silent) .none kV_silent dc_silent pm_silent an_silent cd_silent ct_silent), sl_silent⟩)
    (c_silent : PySem.W.codeIn K cd_silent "_law_silent" = true)
    (k_silent : PySem.W.keepIn K (.ref x_silent) = true)
    {x_left_out : Addr} {od_left_out an_left_out : Option Addr} {sl_left_out : Array (Option Value)} {oc_left_out dc_left_out pm_left_out cd_left_out ct_left_out : Value}
    {kV_left_out : Value}
    (a_left_out : PySem.W.nsIn K mainGlobals "_law_left_out" = some (some (.ref x_left_out)))
    (l_left_out : K.lookup x_left_out = some ⟨oc_left_out, od_left_out, .func (PySem.W.fnOf "_law_left_out" "_law_left_out" (defArgs s_left_out) (defBody s_left_out) (defScope s_left_out) .none kV_left_out dc_left_out pm_left_out an_left_out cd_left_out ct_left_out), sl_left_out⟩)
    (c_left_out : PySem.W.codeIn K cd_left_out "_law_left_out" = true)
    (k_left_out : PySem.W.keepIn K (.ref x_left_out) = true)
    {x_least : Addr} {od_least an_least : Option Addr} {sl_least : Array (Option Value)} {oc_least dc_least pm_least cd_least ct_least : Value}
    {kV_least : Value}
    (a_least : PySem.W.nsIn K mainGlobals "_law_least" = some (some (.ref x_least)))
    (l_least : K.lookup x_least = some ⟨oc_least, od_least, .func (PySem.W.fnOf "_law_least" "_law_least" (defArgs s_least) (defBody s_least) (defScope s_least) .none kV_least dc_least pm_least an_least cd_least ct_least), sl_least⟩)
    (c_least : PySem.W.codeIn K cd_least "_law_least" = true)
    (k_least : PySem.W.keepIn K (.ref x_least) = true)
    {x_law : Addr} {od_law an_law : Option Addr} {sl_law : Array (Option Value)} {oc_law dc_law pm_law cd_law ct_law : Value}
    {kV_law : Value}
    (a_law : PySem.W.nsIn K mainGlobals "law" = some (some (.ref x_law)))
    (l_law : K.lookup x_law = some ⟨oc_law, od_law, .func (PySem.W.fnOf "law" "law" (defArgs s_law) (defBody s_law) (defScope s_law) .none kV_law dc_law pm_law an_law cd_law ct_law), sl_law⟩)
    (c_law : PySem.W.codeIn K cd_law "law" = true)
    (k_law : PySem.W.keepIn K (.ref x_law) = true)
    (pgR : PySem.W.plainGet K xC Str.empty = true)
    (hdR : PySem.W.hasDictIn K xC = true)
    (poR : PySem.W.plainOver K xC = true)
    (saR : PySem.W.findIn K (.ref xC) "__setattr__" = some (some (.builtin "object.__setattr__")))
    (mkR : PySem.W.makesIn K xC = true)
    (kcR : PySem.W.keepIn K (.ref xC) = true)
    (nT : PySem.W.findIn K (.ref xC) "text" = some none)
    (nS : PySem.W.findIn K (.ref xC) "seekers" = some none)
    (nZ : PySem.W.findIn K (.ref xC) "zones" = some none)
    (pg : PySem.W.plainGet K xH Str.empty = true)
    (hd : PySem.W.hasDictIn K xH = true)
    (po : PySem.W.plainOver K xH = true)
    (sa : PySem.W.findIn K (.ref xH) "__setattr__" = some (some (.builtin "object.__setattr__")))
    (mk : PySem.W.makesIn K xH = true)
    (kc : PySem.W.keepIn K (.ref xH) = true)
    (nBo : PySem.W.findIn K (.ref xH) "box" = some none)
    (nRi : PySem.W.findIn K (.ref xH) "ring" = some none)
    (nMa : PySem.W.findIn K (.ref xH) "mark" = some none)
    (nRo : PySem.W.findIn K (.ref xH) "rows" = some none)
    (nNe : PySem.W.findIn K (.ref xH) "need" = some none)
    (nLa : PySem.W.findIn K (.ref xH) "layout" = some none)
    (nSk : PySem.W.findIn K (.ref xH) "seekers" = some none)
    (ica : PySem.W.findIn K (.ref xH) "__class__" = some (some (.builtin "object.__class__")))
    (icn : PySem.W.specialIn K (.builtin "object.__class__") "__get__" = some (some (.builtin "getset_descriptor.__get__")))
    (ict : PySem.W.takesIn K (.builtin "object.__class__") = some true)
    (icm : PySem.W.mroIn K xH (.type "object") = some true)
    (kS : PySem.W.kitOne K (.ref xH) (.ref xH) = some true)
    (pgP : PySem.W.plainGet K xP Str.empty = true)
    (hdP : PySem.W.hasDictIn K xP = true)
    (poP : PySem.W.plainOver K xP = true)
    (saP : PySem.W.findIn K (.ref xP) "__setattr__" = some (some (.builtin "object.__setattr__")))
    (mkP : PySem.W.makesIn K xP = true)
    (kcP : PySem.W.keepIn K (.ref xP) = true)
    (nHo : PySem.W.findIn K (.ref xP) "house" = some none)
    (nFa : PySem.W.findIn K (.ref xP) "faults" = some none)
    (nHe : PySem.W.findIn K (.ref xP) "heard" = some none)
    (nCo : PySem.W.findIn K (.ref xP) "counts" = some none)
    (nAl : PySem.W.findIn K (.ref xP) "alarmed" = some none)
    {eCH eIH : Addr} {enmH eqH : Str} {eNH : Addr} {ebsH ebmH : List Value} {esnH : List Str} {esubH : List Value} {eabH : Bool} {ecolH : Option Bool} {eddH : Option Addr} {em0H em1H em2H em3H em5H : Option Value}
    {eocH edcH epmH ecdH ectH : Value} {eodH eanH : Option Addr} {eslH : Array (Option Value)} {ep1H ep2H eq1H eq2H eq3H eq4H : Pos}
    (e_aH : PySem.W.nsIn K mainGlobals "BadHouse" = some (some (.ref eCH)))
    (e_xH : K.lookup eCH = some (excClassObj enmH eqH eCH eNH ebsH ebmH true esnH esubH eabH ecolH eddH em0H em1H em2H em3H em5H "ValueError.__new__"))
    (e_bH : PySem.HandSPX.refsVE ebmH = true)
    (e_sH : PySem.W.findIn K (.ref eCH) "__setattr__" = some (some (.builtin "object.__setattr__"))) (e_gH : PySem.W.findIn K (.ref eCH) "__getattribute__" = some (some (.builtin "BaseException.__getattribute__"))) (e_hH : PySem.W.findIn K (.ref eCH) "__getattr__" = some none) (e_nH : PySem.W.findIn K (.ref eCH) "what" = some none)
    (e_iH : PySem.W.findIn K (.ref eCH) "__init__" = some (some (.ref eIH))) (e_tH : PySem.W.typeIn K (.ref eIH) = some (.type "function"))
    (e_lH : K.lookup eIH = some ⟨eocH, eodH, .func (PySem.W.fnOf "__init__" "BadHouse.__init__" (PySem.LowH.iA ep1H ep2H) (PySem.LowH.iB eq1H eq2H eq3H eq4H) PySem.LowH.iS .none .none edcH epmH eanH ecdH ectH), eslH⟩) (e_cH : PySem.W.codeIn K ecdH "BadHouse.__init__" = true)
    (e_kH : PySem.W.keepIn K (.ref eCH) = true) (e_eH : PySem.W.subIn K (.ref eCH) (.type "BaseException") = some true) (e_tyH : PySem.W.typeIn K (.ref eCH) = some (.type "type")) (e_dH : PySem.W.hasDictIn K eCH = true) (e_scH : PySem.W.subIn K (.ref eCH) (.ref eCH) = some true)
    {eCR eIR : Addr} {enmR eqR : Str} {eNR : Addr} {ebsR ebmR : List Value} {esnR : List Str} {esubR : List Value} {eabR : Bool} {ecolR : Option Bool} {eddR : Option Addr} {em0R em1R em2R em3R em5R : Option Value}
    {eocR edcR epmR ecdR ectR : Value} {eodR eanR : Option Addr} {eslR : Array (Option Value)} {ep1R ep2R eq1R eq2R eq3R eq4R : Pos}
    (e_aR : PySem.W.nsIn K mainGlobals "BadRing" = some (some (.ref eCR)))
    (e_xR : K.lookup eCR = some (excClassObj enmR eqR eCR eNR ebsR ebmR true esnR esubR eabR ecolR eddR em0R em1R em2R em3R em5R "ValueError.__new__"))
    (e_bR : PySem.HandSPX.refsVE ebmR = true)
    (e_sR : PySem.W.findIn K (.ref eCR) "__setattr__" = some (some (.builtin "object.__setattr__"))) (e_gR : PySem.W.findIn K (.ref eCR) "__getattribute__" = some (some (.builtin "BaseException.__getattribute__"))) (e_hR : PySem.W.findIn K (.ref eCR) "__getattr__" = some none) (e_nR : PySem.W.findIn K (.ref eCR) "text" = some none)
    (e_iR : PySem.W.findIn K (.ref eCR) "__init__" = some (some (.ref eIR))) (e_tR : PySem.W.typeIn K (.ref eIR) = some (.type "function"))
    (e_lR : K.lookup eIR = some ⟨eocR, eodR, .func (PySem.W.fnOf "__init__" "BadRing.__init__" (PySem.LowR.iA ep1R ep2R) (PySem.LowR.iB eq1R eq2R eq3R eq4R) PySem.LowR.iS .none .none edcR epmR eanR ecdR ectR), eslR⟩) (e_cR : PySem.W.codeIn K ecdR "BadRing.__init__" = true)
    (e_kR : PySem.W.keepIn K (.ref eCR) = true) (e_eR : PySem.W.subIn K (.ref eCR) (.type "BaseException") = some true) (e_tyR : PySem.W.typeIn K (.ref eCR) = some (.type "type")) (e_dR : PySem.W.hasDictIn K eCR = true) (e_scR : PySem.W.subIn K (.ref eCR) (.ref eCR) = some true)
    {eCF eIF : Addr} {enmF eqF : Str} {eNF : Addr} {ebsF ebmF : List Value} {esnF : List Str} {esubF : List Value} {eabF : Bool} {ecolF : Option Bool} {eddF : Option Addr} {em0F em1F em2F em3F em5F : Option Value}
    {eocF edcF epmF ecdF ectF : Value} {eodF eanF : Option Addr} {eslF : Array (Option Value)} {ep1F ep2F eq1F eq2F eq3F eq4F : Pos}
    (e_aF : PySem.W.nsIn K mainGlobals "BadFault" = some (some (.ref eCF)))
    (e_xF : K.lookup eCF = some (excClassObj enmF eqF eCF eNF ebsF ebmF true esnF esubF eabF ecolF eddF em0F em1F em2F em3F em5F "ValueError.__new__"))
    (e_bF : PySem.HandSPX.refsVE ebmF = true)
    (e_sF : PySem.W.findIn K (.ref eCF) "__setattr__" = some (some (.builtin "object.__setattr__"))) (e_gF : PySem.W.findIn K (.ref eCF) "__getattribute__" = some (some (.builtin "BaseException.__getattribute__"))) (e_hF : PySem.W.findIn K (.ref eCF) "__getattr__" = some none) (e_nF : PySem.W.findIn K (.ref eCF) "fault" = some none)
    (e_iF : PySem.W.findIn K (.ref eCF) "__init__" = some (some (.ref eIF))) (e_tF : PySem.W.typeIn K (.ref eIF) = some (.type "function"))
    (e_lF : K.lookup eIF = some ⟨eocF, eodF, .func (PySem.W.fnOf "__init__" "BadFault.__init__" (PySem.LowF.iA ep1F ep2F) (PySem.LowF.iB eq1F eq2F eq3F eq4F) PySem.LowF.iS .none .none edcF epmF eanF ecdF ectF), eslF⟩) (e_cF : PySem.W.codeIn K ecdF "BadFault.__init__" = true)
    (e_kF : PySem.W.keepIn K (.ref eCF) = true) (e_eF : PySem.W.subIn K (.ref eCF) (.type "BaseException") = some true) (e_tyF : PySem.W.typeIn K (.ref eCF) = some (.type "type")) (e_dF : PySem.W.hasDictIn K eCF = true) (e_scF : PySem.W.subIn K (.ref eCF) (.ref eCF) = some true)
    {eCN eIN : Addr} {enmN eqN : Str} {eNN : Addr} {ebsN ebmN : List Value} {esnN : List Str} {esubN : List Value} {eabN : Bool} {ecolN : Option Bool} {eddN : Option Addr} {em0N em1N em2N em3N em5N : Option Value}
    {eocN edcN epmN ecdN ectN : Value} {eodN eanN : Option Addr} {eslN : Array (Option Value)} {ep1N ep2N eq1N eq2N eq3N eq4N : Pos}
    (e_aN : PySem.W.nsIn K mainGlobals "NoFault" = some (some (.ref eCN)))
    (e_xN : K.lookup eCN = some (excClassObj enmN eqN eCN eNN ebsN ebmN true esnN esubN eabN ecolN eddN em0N em1N em2N em3N em5N "ValueError.__new__"))
    (e_bN : PySem.HandSPX.refsVE ebmN = true)
    (e_sN : PySem.W.findIn K (.ref eCN) "__setattr__" = some (some (.builtin "object.__setattr__"))) (e_gN : PySem.W.findIn K (.ref eCN) "__getattribute__" = some (some (.builtin "BaseException.__getattribute__"))) (e_hN : PySem.W.findIn K (.ref eCN) "__getattr__" = some none) (e_nN : PySem.W.findIn K (.ref eCN) "fault" = some none)
    (e_iN : PySem.W.findIn K (.ref eCN) "__init__" = some (some (.ref eIN))) (e_tN : PySem.W.typeIn K (.ref eIN) = some (.type "function"))
    (e_lN : K.lookup eIN = some ⟨eocN, eodN, .func (PySem.W.fnOf "__init__" "NoFault.__init__" (PySem.LowN.iA ep1N ep2N) (PySem.LowN.iB eq1N eq2N eq3N eq4N) PySem.LowN.iS .none .none edcN epmN eanN ecdN ectN), eslN⟩) (e_cN : PySem.W.codeIn K ecdN "NoFault.__init__" = true)
    (e_kN : PySem.W.keepIn K (.ref eCN) = true) (e_eN : PySem.W.subIn K (.ref eCN) (.type "BaseException") = some true) (e_tyN : PySem.W.typeIn K (.ref eCN) = some (.type "type")) (e_dN : PySem.W.hasDictIn K eCN = true) (e_scN : PySem.W.subIn K (.ref eCN) (.ref eCN) = some true)
    {eCV eIV : Addr} {enmV eqV : Str} {eNV : Addr} {ebsV ebmV : List Value} {esnV : List Str} {esubV : List Value} {eabV : Bool} {ecolV : Option Bool} {eddV : Option Addr} {em0V em1V em2V em3V em5V : Option Value}
    {eocV edcV epmV ecdV ectV : Value} {eodV eanV : Option Addr} {eslV : Array (Option Value)} {ep1V ep2V ep3V eq1V eq2V eq3V eq4V eq5V eq6V eq7V eq8V : Pos}
    (e_aV : PySem.W.nsIn K mainGlobals "BadLevels" = some (some (.ref eCV)))
    (e_xV : K.lookup eCV = some (excClassObj enmV eqV eCV eNV ebsV ebmV true esnV esubV eabV ecolV eddV em0V em1V em2V em3V em5V "ValueError.__new__"))
    (e_bV : PySem.HandSPX.refsVE ebmV = true)
    (e_sV : PySem.W.findIn K (.ref eCV) "__setattr__" = some (some (.builtin "object.__setattr__"))) (e_gV : PySem.W.findIn K (.ref eCV) "__getattribute__" = some (some (.builtin "BaseException.__getattribute__"))) (e_hV : PySem.W.findIn K (.ref eCV) "__getattr__" = some none) (e_nV : PySem.W.findIn K (.ref eCV) "what" = some none)
    (e_mV : PySem.W.findIn K (.ref eCV) "at" = some none)
    (e_iV : PySem.W.findIn K (.ref eCV) "__init__" = some (some (.ref eIV))) (e_tV : PySem.W.typeIn K (.ref eIV) = some (.type "function"))
    (e_lV : K.lookup eIV = some ⟨eocV, eodV, .func (PySem.W.fnOf "__init__" "BadLevels.__init__" (PySem.LowV.iA ep1V ep2V ep3V) (PySem.LowV.iB eq1V eq2V eq3V eq4V eq5V eq6V eq7V eq8V) PySem.LowV.iS .none .none edcV epmV eanV ecdV ectV), eslV⟩) (e_cV : PySem.W.codeIn K ecdV "BadLevels.__init__" = true)
    (e_kV : PySem.W.keepIn K (.ref eCV) = true) (e_eV : PySem.W.subIn K (.ref eCV) (.type "BaseException") = some true) (e_tyV : PySem.W.typeIn K (.ref eCV) = some (.type "type")) (e_dV : PySem.W.hasDictIn K eCV = true) (e_scV : PySem.W.subIn K (.ref eCV) (.ref eCV) = some true)
    (x_VF : PySem.W.subIn K (.ref eCV) (.ref eCF) = some false)
    {t_DIGITS : Tok}
    (n_DIGITS : PySem.W.nsIn K mainGlobals "DIGITS" = some (some (.str "123456789" t_DIGITS)))
    {t_MOST_DIGITS : Tok}
    (n_MOST_DIGITS : PySem.W.nsIn K mainGlobals "MOST_DIGITS" = some (some (.int 4 t_MOST_DIGITS)))
    {t_GREATEST_SUM : Tok}
    (n_GREATEST_SUM : PySem.W.nsIn K mainGlobals "GREATEST_SUM" = some (some (.int 24 t_GREATEST_SUM)))
    {t_MOST_SIGNS : Tok}
    (n_MOST_SIGNS : PySem.W.nsIn K mainGlobals "MOST_SIGNS" = some (some (.int 10 t_MOST_SIGNS)))
    {t_SEEKER : Tok}
    (n_SEEKER : PySem.W.nsIn K mainGlobals "SEEKER" = some (some (.str "s" t_SEEKER)))
    {t_OPENER : Tok}
    (n_OPENER : PySem.W.nsIn K mainGlobals "OPENER" = some (some (.str "o" t_OPENER)))
    {t_CUT : Tok}
    (n_CUT : PySem.W.nsIn K mainGlobals "CUT" = some (some (.str "cut" t_CUT)))
    {t_SHORT : Tok}
    (n_SHORT : PySem.W.nsIn K mainGlobals "SHORT" = some (some (.str "short" t_SHORT)))
    {t_LEFT : Tok}
    (n_LEFT : PySem.W.nsIn K mainGlobals "LEFT" = some (some (.str "left" t_LEFT)))
    {t_RIGHT : Tok}
    (n_RIGHT : PySem.W.nsIn K mainGlobals "RIGHT" = some (some (.str "right" t_RIGHT)))
    {t_MOST_ROWS : Tok}
    (n_MOST_ROWS : PySem.W.nsIn K mainGlobals "MOST_ROWS" = some (some (.int 8 t_MOST_ROWS)))
    (z_abs : PySem.W.nsIn K mainGlobals "abs" = some none)
    (z_all : PySem.W.nsIn K mainGlobals "all" = some none)
    (z_bool : PySem.W.nsIn K mainGlobals "bool" = some none)
    (z_enumerate : PySem.W.nsIn K mainGlobals "enumerate" = some none)
    (z_int : PySem.W.nsIn K mainGlobals "int" = some none)
    (z_isinstance : PySem.W.nsIn K mainGlobals "isinstance" = some none)
    (z_len : PySem.W.nsIn K mainGlobals "len" = some none)
    (z_list : PySem.W.nsIn K mainGlobals "list" = some none)
    (z_range : PySem.W.nsIn K mainGlobals "range" = some none)
    (z_set : PySem.W.nsIn K mainGlobals "set" = some none)
    (z_sorted : PySem.W.nsIn K mainGlobals "sorted" = some none)
    (z_str : PySem.W.nsIn K mainGlobals "str" = some none)
    (z_sum : PySem.W.nsIn K mainGlobals "sum" = some none)
    (z_tuple : PySem.W.nsIn K mainGlobals "tuple" = some none)
    : ∃ fd : FuncData, (∀ (s : Shared) (v : Value), BindsTo s fd ⟨[v], []⟩ [("_law_script", v)]) ∧ ∀ base : Heap, K.In base → base.Ns mainGlobals mg → FnOk l.prog w K mg base CX0 14 fa fd ["_law_script"] (sp_law K) := by
  have e := hfa.symm.trans (PySem.W.mg_of X G a_law)
  cases e
  have F_is_whole := fun_mk (st := s_is_whole) l_is_whole c_is_whole k_is_whole
  have b_is_whole := F_is_whole.binds (ps := ["thing"]) fun _ _ _ _ _ _ us hl => match us, hl with | [_], _ => rfl
  have F_is_whole_within := fun_mk (st := s_is_whole_within) l_is_whole_within c_is_whole_within k_is_whole_within
  have b_is_whole_within := F_is_whole_within.binds (ps := ["thing", "low", "high"]) fun _ _ _ _ _ _ us hl => match us, hl with | [_, _, _], _ => rfl
  have F_is_number := fun_mk (st := s_is_number) l_is_number c_is_number k_is_number
  have b_is_number := F_is_number.binds (ps := ["thing"]) fun _ _ _ _ _ _ us hl => match us, hl with | [_], _ => rfl
  have F_is_ring_text := fun_mk (st := s_is_ring_text) l_is_ring_text c_is_ring_text k_is_ring_text
  have b_is_ring_text := F_is_ring_text.binds (ps := ["thing"]) fun _ _ _ _ _ _ us hl => match us, hl with | [_], _ => rfl
  have F_zones_of := fun_mk (st := s_zones_of) l_zones_of c_zones_of k_zones_of
  have b_zones_of := F_zones_of.binds (ps := ["text"]) fun _ _ _ _ _ _ us hl => match us, hl with | [_], _ => rfl
  have F_init := fun_mk (st := s_init) l_init c_init k_init
  have b_init := F_init.binds (ps := ["self", "text"]) fun _ _ _ _ _ _ us hl => match us, hl with | [_, _], _ => rfl
  have F_all_faults := fun_mk (st := s_all_faults) l_all_faults c_all_faults k_all_faults
  have b_all_faults := F_all_faults.binds (ps := ["self"]) fun _ _ _ _ _ _ us hl => match us, hl with | [_], _ => rfl
  have F_check_fault := fun_mk (st := s_check_fault) l_check_fault c_check_fault k_check_fault
  have b_check_fault := F_check_fault.binds (ps := ["self", "thing"]) fun _ _ _ _ _ _ us hl => match us, hl with | [_, _], _ => rfl
  have F_check_faults := fun_mk (st := s_check_faults) l_check_faults c_check_faults k_check_faults
  have b_check_faults := F_check_faults.binds (ps := ["self", "faults"]) fun _ _ _ _ _ _ us hl => match us, hl with | [_, _], _ => rfl
  have F_zone_of := fun_mk (st := s_zone_of) l_zone_of c_zone_of k_zone_of
  have b_zone_of := F_zone_of.binds (ps := ["self", "stretch"]) fun _ _ _ _ _ _ us hl => match us, hl with | [_, _], _ => rfl
  have F_closed_stretches := fun_mk (st := s_closed_stretches) l_closed_stretches c_closed_stretches k_closed_stretches
  have b_closed_stretches := F_closed_stretches.binds (ps := ["self", "faults"]) fun _ _ _ _ _ _ us hl => match us, hl with | [_, _], _ => rfl
  have F_passed_from := fun_mk (st := s_passed_from) l_passed_from c_passed_from k_passed_from
  have b_passed_from := F_passed_from.binds (ps := ["self", "end", "faults"]) fun _ _ _ _ _ _ us hl => match us, hl with | [_, _, _], _ => rfl
  have F_reached := fun_mk (st := s_reached) l_reached c_reached k_reached
  have b_reached := F_reached.binds (ps := ["self", "faults"]) fun _ _ _ _ _ _ us hl => match us, hl with | [_, _], _ => rfl
  have F_hinit : FunD K "__init__" "House.__init__" (defArgs s_hinit) (defBody s_hinit) (defScope s_hinit) [] [("need", V.int 1)] x_hinit _ := ⟨⟨_, _, _, _, _, _, _, _, _, _, rfl, l_hinit, c_hinit, .inl ⟨rfl, rfl⟩, .inr ⟨xD, rfl, fun q m => by rw [List.mem_singleton.mp m]; exact ⟨_, e_hinit, ⟨_, rfl⟩⟩⟩⟩, k_hinit⟩
  have kb3 := F_hinit.kbinds0 (ps := ["self", "box", "ring", "mark", "rows", "need"]) 3 ["mark", "rows", "need"] [] (fun vs mz zs => vs ++ zs) (by decide) (fun _ h => absurd h (by simp)) (fun a b c => a.append c) fun D doc pm an cdv ct us mv ws h1 h2 h3 => match us, mv, ws, h1, h2, h3 with | [_, _, _], [], [_, _, _], _, _, _ => rfl
  obtain ⟨_, kb3⟩ := kb3
  have F_heq := fun_mk (st := s_heq) l_heq c_heq k_heq
  have b_heq := F_heq.binds (ps := ["self", "other"]) fun _ _ _ _ _ _ us hl => match us, hl with | [_, _], _ => rfl
  have F_is_silent := fun_mk (st := s_is_silent) l_is_silent c_is_silent k_is_silent
  have F_set_faults := fun_mk (st := s_set_faults) l_set_faults c_set_faults k_set_faults
  have b_set_faults := F_set_faults.binds (ps := ["self", "faults"]) fun _ _ _ _ _ _ us hl => match us, hl with | [_, _], _ => rfl
  have F_reset := fun_mk (st := s_reset) l_reset c_reset k_reset
  have b_reset := F_reset.binds (ps := ["self"]) fun _ _ _ _ _ _ us hl => match us, hl with | [_], _ => rfl
  have F_pinit := fun_mk (st := s_pinit) l_pinit c_pinit k_pinit
  have b_pinit := F_pinit.binds (ps := ["self", "house"]) fun _ _ _ _ _ _ us hl => match us, hl with | [_, _], _ => rfl
  have F_put_fault := fun_mk (st := s_put_fault) l_put_fault c_put_fault k_put_fault
  have b_put_fault := F_put_fault.binds (ps := ["self", "fault"]) fun _ _ _ _ _ _ us hl => match us, hl with | [_, _], _ => rfl
  have F_mend_fault := fun_mk (st := s_mend_fault) l_mend_fault c_mend_fault k_mend_fault
  have b_mend_fault := F_mend_fault.binds (ps := ["self", "fault"]) fun _ _ _ _ _ _ us hl => match us, hl with | [_, _], _ => rfl
  have F_check_levels := fun_mk (st := s_check_levels) l_check_levels c_check_levels k_check_levels
  have b_check_levels := F_check_levels.binds (ps := ["house", "levels"]) fun _ _ _ _ _ _ us hl => match us, hl with | [_, _], _ => rfl
  have F_count_behind := fun_mk (st := s_count_behind) l_count_behind c_count_behind k_count_behind
  have b_count_behind := F_count_behind.binds (ps := ["self", "seeker", "level"]) fun _ _ _ _ _ _ us hl => match us, hl with | [_, _, _], _ => rfl
  have F_beat := fun_mk (st := s_beat) l_beat c_beat k_beat
  have b_beat := F_beat.binds (ps := ["self", "levels"]) fun _ _ _ _ _ _ us hl => match us, hl with | [_, _], _ => rfl
  have F_copied := fun_mk (st := s_copied) l_copied c_copied k_copied
  have b_copied := F_copied.binds (ps := ["self"]) fun _ _ _ _ _ _ us hl => match us, hl with | [_], _ => rfl
  have F_tried := fun_mk (st := s_tried) l_tried c_tried k_tried
  have b_tried := F_tried.binds (ps := ["panel", "faults", "beats"]) fun _ _ _ _ _ _ us hl => match us, hl with | [_, _, _], _ => rfl
  have F_first_warning : FunD K "first_warning" "first_warning" (defArgs s_first_warning) (defBody s_first_warning) (defScope s_first_warning) [V.ref xEF] [] x_first_warning _ := ⟨⟨_, _, _, _, _, _, _, _, _, _, rfl, l_first_warning, c_first_warning, .inr ⟨by simp, xTF, _, [.ref xEF], _, rfl, w_tF, rfl, .cons rfl .nil⟩, .inl rfl⟩, k_first_warning⟩
  have b_first_warning := F_first_warning.binds1 (ps := ["house", "beats", "faults"]) 3 1 (by simp) rfl fun T kV doc pm an cdv ct us its h1 h2 => match us, its, h1, h2 with | [_, _, _], [_], _, _ => ⟨_, rfl, rfl⟩
  obtain ⟨ds_first_warning, rd_first_warning, b_first_warning⟩ := b_first_warning
  cases rd_first_warning
  have b0_first_warning := F_first_warning.binds1 (ps := ["house", "beats", "faults"]) 2 0 (by simp) rfl fun T kV doc pm an cdv ct us its h1 h2 => match us, its, h1, h2 with | [_, _], [_], _, _ => ⟨_, rfl, rfl⟩
  obtain ⟨dz_first_warning, rz_first_warning, b0_first_warning⟩ := b0_first_warning
  obtain ⟨_, ez_first_warning, nz_first_warning⟩ := vals1 rz_first_warning
  cases nz_first_warning
  subst ez_first_warning
  have t_first_warning : ∀ H, SqT K H xEF [] := fun H => .inr ⟨_, _, _, w_eF, rfl, rfl, by show 0 ≤ sizeLine; exact Nat.zero_le _, .nil⟩
  have F_false_levels : FunD K "false_levels" "false_levels" (defArgs s_false_levels) (defBody s_false_levels) (defScope s_false_levels) [V.ref xEL] [] x_false_levels _ := ⟨⟨_, _, _, _, _, _, _, _, _, _, rfl, l_false_levels, c_false_levels, .inr ⟨by simp, xTL, _, [.ref xEL], _, rfl, w_tL, rfl, .cons rfl .nil⟩, .inl rfl⟩, k_false_levels⟩
  have b_false_levels := F_false_levels.binds1 (ps := ["house", "faults"]) 2 1 (by simp) rfl fun T kV doc pm an cdv ct us its h1 h2 => match us, its, h1, h2 with | [_, _], [_], _, _ => ⟨_, rfl, rfl⟩
  obtain ⟨ds_false_levels, rd_false_levels, b_false_levels⟩ := b_false_levels
  cases rd_false_levels
  have b0_false_levels := F_false_levels.binds1 (ps := ["house", "faults"]) 1 0 (by simp) rfl fun T kV doc pm an cdv ct us its h1 h2 => match us, its, h1, h2 with | [_], [_], _, _ => ⟨_, rfl, rfl⟩
  obtain ⟨dz_false_levels, rz_false_levels, b0_false_levels⟩ := b0_false_levels
  obtain ⟨_, ez_false_levels, nz_false_levels⟩ := vals1 rz_false_levels
  cases nz_false_levels
  subst ez_false_levels
  have t_false_levels : ∀ H, SqT K H xEL [] := fun H => .inr ⟨_, _, _, w_eL, rfl, rfl, by show 0 ≤ sizeLine; exact Nat.zero_le _, .nil⟩
  have F_open := fun_mk (st := s_open) l_open c_open k_open
  have b_open := F_open.binds (ps := ["_law_script"]) fun _ _ _ _ _ _ us hl => match us, hl with | [_], _ => rfl
  have F_draw := fun_mk (st := s_draw) l_draw c_draw k_draw
  have b_draw := F_draw.binds (ps := ["_law_state", "_law_many"]) fun _ _ _ _ _ _ us hl => match us, hl with | [_, _], _ => rfl
  have F_text := fun_mk (st := s_text) l_text c_text k_text
  have b_text := F_text.binds (ps := ["_law_state"]) fun _ _ _ _ _ _ us hl => match us, hl with | [_], _ => rfl
  have F_faults := fun_mk (st := s_faults) l_faults c_faults k_faults
  have b_faults := F_faults.binds (ps := ["_law_state", "_law_text_here", "_law_many"]) fun _ _ _ _ _ _ us hl => match us, hl with | [_, _, _], _ => rfl
  have F_zone := fun_mk (st := s_zone) l_zone c_zone k_zone
  have b_zone := F_zone.binds (ps := ["_law_text_here", "_law_stretch"]) fun _ _ _ _ _ _ us hl => match us, hl with | [_, _], _ => rfl
  have F_open_at := fun_mk (st := s_open_at) l_open_at c_open_at k_open_at
  have b_open_at := F_open_at.binds (ps := ["_law_text_here", "_law_faults_here", "_law_stretch"]) fun _ _ _ _ _ _ us hl => match us, hl with | [_, _, _], _ => rfl
  have F_passed := fun_mk (st := s_passed) l_passed c_passed k_passed
  have b_passed := F_passed.binds (ps := ["_law_text_here", "_law_faults_here", "_law_stretches"]) fun _ _ _ _ _ _ us hl => match us, hl with | [_, _, _], _ => rfl
  have F_spots := fun_mk (st := s_spots) l_spots c_spots k_spots
  have b_spots := F_spots.binds (ps := ["_law_text_here"]) fun _ _ _ _ _ _ us hl => match us, hl with | [_], _ => rfl
  have F_heard := fun_mk (st := s_heard) l_heard c_heard k_heard
  have b_heard := F_heard.binds (ps := ["_law_text_here", "_law_faults_here"]) fun _ _ _ _ _ _ us hl => match us, hl with | [_, _], _ => rfl
  have F_levels := fun_mk (st := s_levels) l_levels c_levels k_levels
  have b_levels := F_levels.binds (ps := ["_law_state", "_law_bar", "_law_many"]) fun _ _ _ _ _ _ us hl => match us, hl with | [_, _, _], _ => rfl
  have F_step := fun_mk (st := s_step) l_step c_step k_step
  have b_step := F_step.binds (ps := ["_law_plan", "_law_faults_here", "_law_counts", "_law_alarmed", "_law_levels_here"]) fun _ _ _ _ _ _ us hl => match us, hl with | [_, _, _, _, _], _ => rfl
  have F_ordered := fun_mk (st := s_ordered) l_ordered c_ordered k_ordered
  have b_ordered := F_ordered.binds (ps := ["_law_text_here", "_law_faults_here"]) fun _ _ _ _ _ _ us hl => match us, hl with | [_, _], _ => rfl
  have F_same := fun_mk (st := s_same) l_same c_same k_same
  have b_same := F_same.binds (ps := ["_law_panel", "_law_plan", "_law_model"]) fun _ _ _ _ _ _ us hl => match us, hl with | [_, _, _], _ => rfl
  have F_run := fun_mk (st := s_run) l_run c_run k_run
  have b_run := F_run.binds (ps := ["_law_plan", "_law_model", "_law_faults_here", "_law_beats"]) fun _ _ _ _ _ _ us hl => match us, hl with | [_, _, _, _], _ => rfl
  have F_ltried := fun_mk (st := s_ltried) l_ltried c_ltried k_ltried
  have b_ltried := F_ltried.binds (ps := ["_law_panel", "_law_faults_here", "_law_beats"]) fun _ _ _ _ _ _ us hl => match us, hl with | [_, _, _], _ => rfl
  have F_trial := fun_mk (st := s_trial) l_trial c_trial k_trial
  have b_trial := F_trial.binds (ps := ["_law_state", "_law_panel", "_law_plan", "_law_model"]) fun _ _ _ _ _ _ us hl => match us, hl with | [_, _, _, _], _ => rfl
  have F_wrong := fun_mk (st := s_wrong) l_wrong c_wrong k_wrong
  have b_wrong := F_wrong.binds (ps := ["_law_state", "_law_panel", "_law_plan", "_law_model"]) fun _ _ _ _ _ _ us hl => match us, hl with | [_, _, _, _], _ => rfl
  have F_mended := fun_mk (st := s_mended) l_mended c_mended k_mended
  have b_mended := F_mended.binds (ps := ["_law_panel", "_law_fault"]) fun _ _ _ _ _ _ us hl => match us, hl with | [_, _], _ => rfl
  have F_deed := fun_mk (st := s_deed) l_deed c_deed k_deed
  have b_deed := F_deed.binds (ps := ["_law_state", "_law_panel", "_law_plan", "_law_model"]) fun _ _ _ _ _ _ us hl => match us, hl with | [_, _, _, _], _ => rfl
  have F_silent := fun_mk (st := s_silent) l_silent c_silent k_silent
  have b_silent := F_silent.binds (ps := ["_law_house", "_law_bad"]) fun _ _ _ _ _ _ us hl => match us, hl with | [_, _], _ => rfl
  have F_left_out := fun_mk (st := s_left_out) l_left_out c_left_out k_left_out
  have b_left_out := F_left_out.binds (ps := ["_law_state", "_law_house", "_law_plan", "_law_beats"]) fun _ _ _ _ _ _ us hl => match us, hl with | [_, _, _, _], _ => rfl
  have F_least := fun_mk (st := s_least) l_least c_least k_least
  have b_least := F_least.binds (ps := ["_law_state", "_law_house", "_law_plan"]) fun _ _ _ _ _ _ us hl => match us, hl with | [_, _, _], _ => rfl
  have F_law := fun_mk (st := s_law) l_law c_law k_law
  have b_law := F_law.binds (ps := ["_law_script"]) fun _ _ _ _ _ _ us hl => match us, hl with | [_], _ => rfl
  have lowH : PySem.LowH.LowTxt K mg eCH eIH :=
    { gC := PySem.W.mg_of X G e_aH, cls := ⟨enmH, eqH, eNH, ebsH, _, esnH, esubH, eabH, ecolH, eddH, em0H, em1H, em2H, em3H, em5H, e_xH, e_bH⟩, sa := e_sH, ga := e_gH, gg := e_hH, noN := e_nH, iC := e_iH, tC := e_tH, kC := e_kH, exC := e_eH, tyC := e_tyH, hdC := e_dH, te := PySem.W.exm_ref e_eH e_dH e_tyH e_scH,
      fn := ⟨_, _, _, _, _, _, _, _, _, _, _, _, _, _, e_lH, e_cH⟩ }
  have lowR : PySem.LowR.LowTxt K mg eCR eIR :=
    { gC := PySem.W.mg_of X G e_aR, cls := ⟨enmR, eqR, eNR, ebsR, _, esnR, esubR, eabR, ecolR, eddR, em0R, em1R, em2R, em3R, em5R, e_xR, e_bR⟩, sa := e_sR, ga := e_gR, gg := e_hR, noN := e_nR, iC := e_iR, tC := e_tR, kC := e_kR, exC := e_eR, tyC := e_tyR, hdC := e_dR, te := PySem.W.exm_ref e_eR e_dR e_tyR e_scR,
      fn := ⟨_, _, _, _, _, _, _, _, _, _, _, _, _, _, e_lR, e_cR⟩ }
  have lowF : PySem.LowF.LowTxt K mg eCF eIF :=
    { gC := PySem.W.mg_of X G e_aF, cls := ⟨enmF, eqF, eNF, ebsF, _, esnF, esubF, eabF, ecolF, eddF, em0F, em1F, em2F, em3F, em5F, e_xF, e_bF⟩, sa := e_sF, ga := e_gF, gg := e_hF, noN := e_nF, iC := e_iF, tC := e_tF, kC := e_kF, exC := e_eF, tyC := e_tyF, hdC := e_dF, te := PySem.W.exm_ref e_eF e_dF e_tyF e_scF,
      fn := ⟨_, _, _, _, _, _, _, _, _, _, _, _, _, _, e_lF, e_cF⟩ }
  have lowN : PySem.LowN.LowTxt K mg eCN eIN :=
    { gC := PySem.W.mg_of X G e_aN, cls := ⟨enmN, eqN, eNN, ebsN, _, esnN, esubN, eabN, ecolN, eddN, em0N, em1N, em2N, em3N, em5N, e_xN, e_bN⟩, sa := e_sN, ga := e_gN, gg := e_hN, noN := e_nN, iC := e_iN, tC := e_tN, kC := e_kN, exC := e_eN, tyC := e_tyN, hdC := e_dN, te := PySem.W.exm_ref e_eN e_dN e_tyN e_scN,
      fn := ⟨_, _, _, _, _, _, _, _, _, _, _, _, _, _, e_lN, e_cN⟩ }
  have lowV : PySem.LowV.LowTxt K mg eCV eIV :=
    { gC := PySem.W.mg_of X G e_aV, cls := ⟨enmV, eqV, eNV, ebsV, _, esnV, esubV, eabV, ecolV, eddV, em0V, em1V, em2V, em3V, em5V, e_xV, e_bV⟩, sa := e_sV, ga := e_gV, gg := e_hV, noN := e_nV, noM := e_mV, iC := e_iV, tC := e_tV, kC := e_kV, exC := e_eV, tyC := e_tyV, hdC := e_dV, te := PySem.W.exm_ref e_eV e_dV e_tyV e_scV,
      fn := ⟨_, _, _, _, _, _, _, _, _, _, _, _, _, _, _, _, _, _, _, e_lV, e_cV⟩ }
  have T : Σ' T : Txt K mg, T.a_law = fa ∧ T.d_law = PySem.W.fnOf "law" "law" (defArgs s_law) (defBody s_law) (defScope s_law) .none kV_law dc_law pm_law an_law cd_law ct_law :=
    ⟨{ C := xC, gC := PySem.W.mg_of X G axC, clC := ⟨pgR, hdR, poR, saR⟩,
        HC := xH, gHC := PySem.W.mg_of X G axH, clHC := ⟨pg, hd, po, sa⟩,
        isi := ⟨ica, icn, ict, icm⟩, kS := kS,
        PC := xP, gPC := PySem.W.mg_of X G axP, clPC := ⟨pgP, hdP, poP, saP⟩,
        nT := nT, nS := nS, nZ := nZ, nBo := nBo, nRi := nRi, nMa := nMa, nRo := nRo, nNe := nNe, nLa := nLa, nSk := nSk, nHo := nHo, nFa := nFa, nHe := nHe, nCo := nCo, nAl := nAl,
        sfC := (by unfold PySem.W.notFirst; simp),
        CH := _, fH := _, lowH := lowH, CR := _, fR := _, lowR := lowR, CF := _, fF := _, lowF := lowF, CN := _, fN := _, lowN := lowN, CV := _, fV := _, lowV := lowV,
        xVF := PySem.W.exm_ref e_eF e_dF e_tyF x_VF,
        aEq := a_heq, iEq := i_heq,
        a_is_whole := _, d_is_whole := _, F_is_whole := F_is_whole, b_is_whole := b_is_whole, g_is_whole := PySem.W.mg_of X G a_is_whole,
        a_is_whole_within := _, d_is_whole_within := _, F_is_whole_within := F_is_whole_within, b_is_whole_within := b_is_whole_within, g_is_whole_within := PySem.W.mg_of X G a_is_whole_within,
        a_is_number := _, d_is_number := _, F_is_number := F_is_number, b_is_number := b_is_number, g_is_number := PySem.W.mg_of X G a_is_number,
        a_is_ring_text := _, d_is_ring_text := _, F_is_ring_text := F_is_ring_text, b_is_ring_text := b_is_ring_text, g_is_ring_text := PySem.W.mg_of X G a_is_ring_text,
        a_zones_of := _, d_zones_of := _, F_zones_of := F_zones_of, b_zones_of := b_zones_of, g_zones_of := PySem.W.mg_of X G a_zones_of,
        a_init := _, d_init := _, F_init := F_init, b_init := b_init, mk_init := ⟨mkR, a_init, i_init, kcR⟩,
        a_all_faults := _, d_all_faults := _, F_all_faults := F_all_faults, b_all_faults := b_all_faults, m_all_faults := ⟨a_all_faults, i_all_faults, k_all_faults⟩,
        a_check_fault := _, d_check_fault := _, F_check_fault := F_check_fault, b_check_fault := b_check_fault, m_check_fault := ⟨a_check_fault, i_check_fault, k_check_fault⟩,
        a_check_faults := _, d_check_faults := _, F_check_faults := F_check_faults, b_check_faults := b_check_faults, m_check_faults := ⟨a_check_faults, i_check_faults, k_check_faults⟩,
        a_zone_of := _, d_zone_of := _, F_zone_of := F_zone_of, b_zone_of := b_zone_of, m_zone_of := ⟨a_zone_of, i_zone_of, k_zone_of⟩,
        a_closed_stretches := _, d_closed_stretches := _, F_closed_stretches := F_closed_stretches, b_closed_stretches := b_closed_stretches, m_closed_stretches := ⟨a_closed_stretches, i_closed_stretches, k_closed_stretches⟩,
        a_passed_from := _, d_passed_from := _, F_passed_from := F_passed_from, b_passed_from := b_passed_from, m_passed_from := ⟨a_passed_from, i_passed_from, k_passed_from⟩,
        a_reached := _, d_reached := _, F_reached := F_reached, b_reached := b_reached, m_reached := ⟨a_reached, i_reached, k_reached⟩,
        a_hinit := _, d_hinit := _, F_hinit := F_hinit, mk_hinit := ⟨mk, a_hinit, i_hinit, kc⟩, kbH3 := kb3,
        a_heq := _, d_heq := _, F_heq := F_heq, b_heq := b_heq, m_heq := ⟨a_heq, i_heq, k_heq⟩,
        a_is_silent := _, d_is_silent := _, F_is_silent := F_is_silent, m_is_silent := ⟨a_is_silent, i_is_silent, k_is_silent⟩,
        a_set_faults := _, d_set_faults := _, F_set_faults := F_set_faults, b_set_faults := b_set_faults, m_set_faults := ⟨a_set_faults, i_set_faults, k_set_faults⟩,
        a_reset := _, d_reset := _, F_reset := F_reset, b_reset := b_reset, m_reset := ⟨a_reset, i_reset, k_reset⟩,
        a_pinit := _, d_pinit := _, F_pinit := F_pinit, b_pinit := b_pinit, mk_pinit := ⟨mkP, a_pinit, i_pinit, kcP⟩,
        a_put_fault := _, d_put_fault := _, F_put_fault := F_put_fault, b_put_fault := b_put_fault, m_put_fault := ⟨a_put_fault, i_put_fault, k_put_fault⟩,
        a_mend_fault := _, d_mend_fault := _, F_mend_fault := F_mend_fault, b_mend_fault := b_mend_fault, m_mend_fault := ⟨a_mend_fault, i_mend_fault, k_mend_fault⟩,
        a_check_levels := _, d_check_levels := _, F_check_levels := F_check_levels, b_check_levels := b_check_levels, g_check_levels := PySem.W.mg_of X G a_check_levels,
        a_count_behind := _, d_count_behind := _, F_count_behind := F_count_behind, b_count_behind := b_count_behind, m_count_behind := ⟨a_count_behind, i_count_behind, k_count_behind⟩,
        a_beat := _, d_beat := _, F_beat := F_beat, b_beat := b_beat, m_beat := ⟨a_beat, i_beat, k_beat⟩,
        a_copied := _, d_copied := _, F_copied := F_copied, b_copied := b_copied, m_copied := ⟨a_copied, i_copied, k_copied⟩,
        a_tried := _, d_tried := _, F_tried := F_tried, b_tried := b_tried, g_tried := PySem.W.mg_of X G a_tried,
        a_first_warning := _, d_first_warning := _, F_first_warning := F_first_warning, b_first_warning := b_first_warning, g_first_warning := PySem.W.mg_of X G a_first_warning, eF := xEF, eFt := t_first_warning, b0_first_warning := b0_first_warning,
        a_false_levels := _, d_false_levels := _, F_false_levels := F_false_levels, b_false_levels := b_false_levels, g_false_levels := PySem.W.mg_of X G a_false_levels, eL := xEL, eLt := t_false_levels, b0_false_levels := b0_false_levels,
        a_open := _, d_open := _, F_open := F_open, b_open := b_open, g_open := PySem.W.mg_of X G a_open,
        a_draw := _, d_draw := _, F_draw := F_draw, b_draw := b_draw, g_draw := PySem.W.mg_of X G a_draw,
        a_text := _, d_text := _, F_text := F_text, b_text := b_text, g_text := PySem.W.mg_of X G a_text,
        a_faults := _, d_faults := _, F_faults := F_faults, b_faults := b_faults, g_faults := PySem.W.mg_of X G a_faults,
        a_zone := _, d_zone := _, F_zone := F_zone, b_zone := b_zone, g_zone := PySem.W.mg_of X G a_zone,
        a_open_at := _, d_open_at := _, F_open_at := F_open_at, b_open_at := b_open_at, g_open_at := PySem.W.mg_of X G a_open_at,
        a_passed := _, d_passed := _, F_passed := F_passed, b_passed := b_passed, g_passed := PySem.W.mg_of X G a_passed,
        a_spots := _, d_spots := _, F_spots := F_spots, b_spots := b_spots, g_spots := PySem.W.mg_of X G a_spots,
        a_heard := _, d_heard := _, F_heard := F_heard, b_heard := b_heard, g_heard := PySem.W.mg_of X G a_heard,
        a_levels := _, d_levels := _, F_levels := F_levels, b_levels := b_levels, g_levels := PySem.W.mg_of X G a_levels,
        a_step := _, d_step := _, F_step := F_step, b_step := b_step, g_step := PySem.W.mg_of X G a_step,
        a_ordered := _, d_ordered := _, F_ordered := F_ordered, b_ordered := b_ordered, g_ordered := PySem.W.mg_of X G a_ordered,
        a_same := _, d_same := _, F_same := F_same, b_same := b_same, g_same := PySem.W.mg_of X G a_same,
        a_run := _, d_run := _, F_run := F_run, b_run := b_run, g_run := PySem.W.mg_of X G a_run,
        a_ltried := _, d_ltried := _, F_ltried := F_ltried, b_ltried := b_ltried, g_ltried := PySem.W.mg_of X G a_ltried,
        a_trial := _, d_trial := _, F_trial := F_trial, b_trial := b_trial, g_trial := PySem.W.mg_of X G a_trial,
        a_wrong := _, d_wrong := _, F_wrong := F_wrong, b_wrong := b_wrong, g_wrong := PySem.W.mg_of X G a_wrong,
        a_mended := _, d_mended := _, F_mended := F_mended, b_mended := b_mended, g_mended := PySem.W.mg_of X G a_mended,
        a_deed := _, d_deed := _, F_deed := F_deed, b_deed := b_deed, g_deed := PySem.W.mg_of X G a_deed,
        a_silent := _, d_silent := _, F_silent := F_silent, b_silent := b_silent, g_silent := PySem.W.mg_of X G a_silent,
        a_left_out := _, d_left_out := _, F_left_out := F_left_out, b_left_out := b_left_out, g_left_out := PySem.W.mg_of X G a_left_out,
        a_least := _, d_least := _, F_least := F_least, b_least := b_least, g_least := PySem.W.mg_of X G a_least,
        a_law := _, d_law := _, F_law := F_law, b_law := b_law, g_law := PySem.W.mg_of X G a_law,
        t_DIGITS := _, c_DIGITS := PySem.W.mg_of X G n_DIGITS,
        t_MOST_DIGITS := _, c_MOST_DIGITS := PySem.W.mg_of X G n_MOST_DIGITS,
        t_GREATEST_SUM := _, c_GREATEST_SUM := PySem.W.mg_of X G n_GREATEST_SUM,
        t_MOST_SIGNS := _, c_MOST_SIGNS := PySem.W.mg_of X G n_MOST_SIGNS,
        t_SEEKER := _, c_SEEKER := PySem.W.mg_of X G n_SEEKER,
        t_OPENER := _, c_OPENER := PySem.W.mg_of X G n_OPENER,
        t_CUT := _, c_CUT := PySem.W.mg_of X G n_CUT,
        t_SHORT := _, c_SHORT := PySem.W.mg_of X G n_SHORT,
        t_LEFT := _, c_LEFT := PySem.W.mg_of X G n_LEFT,
        t_RIGHT := _, c_RIGHT := PySem.W.mg_of X G n_RIGHT,
        t_MOST_ROWS := _, c_MOST_ROWS := PySem.W.mg_of X G n_MOST_ROWS,
        z_abs := PySem.W.mg_none_of X G z_abs,
        z_all := PySem.W.mg_none_of X G z_all,
        z_bool := PySem.W.mg_none_of X G z_bool,
        z_enumerate := PySem.W.mg_none_of X G z_enumerate,
        z_int := PySem.W.mg_none_of X G z_int,
        z_isinstance := PySem.W.mg_none_of X G z_isinstance,
        z_len := PySem.W.mg_none_of X G z_len,
        z_list := PySem.W.mg_none_of X G z_list,
        z_range := PySem.W.mg_none_of X G z_range,
        z_set := PySem.W.mg_none_of X G z_set,
        z_sorted := PySem.W.mg_none_of X G z_sorted,
        z_str := PySem.W.mg_none_of X G z_str,
        z_sum := PySem.W.mg_none_of X G z_sum,
        z_tuple := PySem.W.mg_none_of X G z_tuple }, rfl, rfl⟩
  obtain ⟨T, e1, e2⟩ := T
  subst e1
  refine ⟨T.d_law, fun s v => by rw [e2]; exact .of_eq rfl, fun base _ _ => ok_law T⟩
theorem walk {l : PySem.W.OpenLaw} {q : Program} {loose : List Str} {XP : (Str → Option Value) → Heap → Prop} {YP : World → Heap → Prop} {d : DefRec} {K : Params → PySem.W.Frag} (hn : l.most = some 63) (hdf : d.params.defaults = [])
    (hY : ∀ (w : World) (h : Heap), YP w h → (K w.params).In h)
    (F : ∀ (w : World) (mg : Str → Option Value) (fa : Addr) (h : Heap), (K w.params).In h → h.Ns mainGlobals mg → mg d.name = some (.ref fa) →
      ∃ fd : FuncData, (∀ (s : Shared) (u : Value), BindsTo s fd ⟨[u], []⟩ [("_law_script", u)]) ∧ ∀ base : Heap, (K w.params).In base → base.Ns mainGlobals mg → FnOk l.prog w (K w.params) mg base CX0 14 fa fd ["_law_script"] (sp_law (K w.params))) :
    PySem.W.WalkO q loose XP YP l.row.toRowW d [] (fun f vs => PySem.call f vs) :=
  L2.walk_of (n := 63) (k := 14) (x := "_law_script") (CX := fun _ => CX0) (sp := fun w => sp_law (K w.params)) hn (by decide) hdf ⟨rfl, by decide, by decide⟩ hY F (fun _ _ a ns hl _ hS => ⟨a, ns, rfl, hS, hl, fun _ => rfl⟩) fun _ _ _ _ _ z => z
end K52

open PySem PySem.W PyProof.Rows in
set_option maxRecDepth 100000 in
set_option maxHeartbeats 0 in
theorem PySem.Challenge.cw_wheelchorus_k52_panels_beat_by_beat_holds : PySem.Challenge.rw_wheelchorus_k52_panels_beat_by_beat.Holds := by
  w_on; o_law; k_head; (case hw => w_witness2)
  k_fill
  refine K52.walk (l := PySem.Challenge.rw_wheelchorus_k52_panels_beat_by_beat) rfl rfl (fun w h Y => PySem.W.kIn_of Y) ?F
  case F =>
    intro w mg fa h KX G hmg
    refine' K52.all_mk KX G hmg ?axC ?axH ?axP ?a_is_whole ?l_is_whole ?c_is_whole ?k_is_whole ?a_is_whole_within ?l_is_whole_within ?c_is_whole_within ?k_is_whole_within ?a_is_number ?l_is_number ?c_is_number ?k_is_number ?a_is_ring_text ?l_is_ring_text ?c_is_ring_text ?k_is_ring_text ?a_zones_of ?l_zones_of ?c_zones_of ?k_zones_of ?a_init ?i_init ?l_init ?c_init ?k_init ?a_all_faults ?i_all_faults ?l_all_faults ?c_all_faults ?k_all_faults ?a_check_fault ?i_check_fault ?l_check_fault ?c_check_fault ?k_check_fault ?a_check_faults ?i_check_faults ?l_check_faults ?c_check_faults ?k_check_faults ?a_zone_of ?i_zone_of ?l_zone_of ?c_zone_of ?k_zone_of ?a_closed_stretches ?i_closed_stretches ?l_closed_stretches ?c_closed_stretches ?k_closed_stretches ?a_passed_from ?i_passed_from ?l_passed_from ?c_passed_from ?k_passed_from ?a_reached ?i_reached ?l_reached ?c_reached ?k_reached ?a_hinit ?i_hinit ?l_hinit ?c_hinit ?k_hinit ?e_hinit ?a_heq ?i_heq ?l_heq ?c_heq ?k_heq ?a_is_silent ?i_is_silent ?l_is_silent ?c_is_silent ?k_is_silent ?a_set_faults ?i_set_faults ?l_set_faults ?c_set_faults ?k_set_faults ?a_reset ?i_reset ?l_reset ?c_reset ?k_reset ?a_pinit ?i_pinit ?l_pinit ?c_pinit ?k_pinit ?a_put_fault ?i_put_fault ?l_put_fault ?c_put_fault ?k_put_fault ?a_mend_fault ?i_mend_fault ?l_mend_fault ?c_mend_fault ?k_mend_fault ?a_check_levels ?l_check_levels ?c_check_levels ?k_check_levels ?a_count_behind ?i_count_behind ?l_count_behind ?c_count_behind ?k_count_behind ?a_beat ?i_beat ?l_beat ?c_beat ?k_beat ?a_copied ?i_copied ?l_copied ?c_copied ?k_copied ?a_tried ?l_tried ?c_tried ?k_tried ?a_first_warning ?l_first_warning ?c_first_warning ?k_first_warning ?w_tF ?w_eF ?a_false_levels ?l_false_levels ?c_false_levels ?k_false_levels ?w_tL ?w_eL ?a_open ?l_open ?c_open ?k_open ?a_draw ?l_draw ?c_draw ?k_draw ?a_text ?l_text ?c_text ?k_text ?a_faults ?l_faults ?c_faults ?k_faults ?a_zone ?l_zone ?c_zone ?k_zone ?a_open_at ?l_open_at ?c_open_at ?k_open_at ?a_passed ?l_passed ?c_passed ?k_passed ?a_spots ?l_spots ?c_spots ?k_spots ?a_heard ?l_heard ?c_heard ?k_heard ?a_levels ?l_levels ?c_levels ?k_levels ?a_step ?l_step ?c_step ?k_step ?a_ordered ?l_ordered ?c_ordered ?k_ordered ?a_same ?l_same ?c_same ?k_same ?a_run ?l_run ?c_run ?k_run ?a_ltried ?l_ltried ?c_ltried ?k_ltried ?a_trial ?l_trial ?c_trial ?k_trial ?a_wrong ?l_wrong ?c_wrong ?k_wrong ?a_mended ?l_mended ?c_mended ?k_mended ?a_deed ?l_deed ?c_deed ?k_deed ?a_silent ?l_silent ?c_silent ?k_silent ?a_left_out ?l_left_out ?c_left_out ?k_left_out ?a_least ?l_least ?c_least ?k_least ?a_law ?l_law ?c_law ?k_law ?pgR ?hdR ?poR ?saR ?mkR ?kcR ?nT ?nS ?nZ ?pg ?hd ?po ?sa ?mk ?kc ?nBo ?nRi ?nMa ?nRo ?nNe ?nLa ?nSk ?ica ?icn ?ict ?icm ?kS ?pgP ?hdP ?poP ?saP ?mkP ?kcP ?nHo ?nFa ?nHe ?nCo ?nAl ?e_aH ?e_xH ?e_bH ?e_sH ?e_gH ?e_hH ?e_nH ?e_iH ?e_tH ?e_lH ?e_cH ?e_kH ?e_eH ?e_tyH ?e_dH ?e_scH ?e_aR ?e_xR ?e_bR ?e_sR ?e_gR ?e_hR ?e_nR ?e_iR ?e_tR ?e_lR ?e_cR ?e_kR ?e_eR ?e_tyR ?e_dR ?e_scR ?e_aF ?e_xF ?e_bF ?e_sF ?e_gF ?e_hF ?e_nF ?e_iF ?e_tF ?e_lF ?e_cF ?e_kF ?e_eF ?e_tyF ?e_dF ?e_scF ?e_aN ?e_xN ?e_bN ?e_sN ?e_gN ?e_hN ?e_nN ?e_iN ?e_tN ?e_lN ?e_cN ?e_kN ?e_eN ?e_tyN ?e_dN ?e_scN ?e_aV ?e_xV ?e_bV ?e_sV ?e_gV ?e_hV ?e_nV ?e_mV ?e_iV ?e_tV ?e_lV ?e_cV ?e_kV ?e_eV ?e_tyV ?e_dV ?e_scV ?x_VF ?n_DIGITS ?n_MOST_DIGITS ?n_GREATEST_SUM ?n_MOST_SIGNS ?n_SEEKER ?n_OPENER ?n_CUT ?n_SHORT ?n_LEFT ?n_RIGHT ?n_MOST_ROWS ?z_abs ?z_all ?z_bool ?z_enumerate ?z_int ?z_isinstance ?z_len ?z_list ?z_range ?z_set ?z_sorted ?z_str ?z_sum ?z_tuple
    (case axC => k_is)
    (case axH => k_is)
    (case axP => k_is)
    (case a_is_whole => k_is)
    (case l_is_whole => k_is)
    (case c_is_whole => k_is)
    (case k_is_whole => k_is)
    (case a_is_whole_within => k_is)
    (case l_is_whole_within => k_is)
    (case c_is_whole_within => k_is)
    (case k_is_whole_within => k_is)
    (case a_is_number => k_is)
    (case l_is_number => k_is)
    (case c_is_number => k_is)
    (case k_is_number => k_is)
    (case a_is_ring_text => k_is)
    (case l_is_ring_text => k_is)
    (case c_is_ring_text => k_is)
    (case k_is_ring_text => k_is)
    (case a_zones_of => k_is)
    (case l_zones_of => k_is)
    (case c_zones_of => k_is)
    (case k_zones_of => k_is)
    (case a_init => k_is)
    (case i_init => k_is)
    (case l_init => k_is)
    (case c_init => k_is)
    (case k_init => k_is)
    (case a_all_faults => k_is)
    (case i_all_faults => k_is)
    (case l_all_faults => k_is)
    (case c_all_faults => k_is)
    (case k_all_faults => k_is)
    (case a_check_fault => k_is)
    (case i_check_fault => k_is)
    (case l_check_fault => k_is)
    (case c_check_fault => k_is)
    (case k_check_fault => k_is)
    (case a_check_faults => k_is)
    (case i_check_faults => k_is)
    (case l_check_faults => k_is)
    (case c_check_faults => k_is)
    (case k_check_faults => k_is)
    (case a_zone_of => k_is)
    (case i_zone_of => k_is)
    (case l_zone_of => k_is)
    (case c_zone_of => k_is)
    (case k_zone_of => k_is)
    (case a_closed_stretches => k_is)
    (case i_closed_stretches => k_is)
    (case l_closed_stretches => k_is)
    (case c_closed_stretches => k_is)
    (case k_closed_stretches => k_is)
    (case a_passed_from => k_is)
    (case i_passed_from => k_is)
    (case l_passed_from => k_is)
    (case c_passed_from => k_is)
    (case k_passed_from => k_is)
    (case a_reached => k_is)
    (case i_reached => k_is)
    (case l_reached => k_is)
    (case c_reached => k_is)
    (case k_reached => k_is)
    (case a_hinit => k_is)
    (case i_hinit => k_is)
    (case l_hinit => k_is)
    (case c_hinit => k_is)
    (case k_hinit => k_is)
    (case e_hinit => k_is)
    (case a_heq => k_is)
    (case i_heq => k_is)
    (case l_heq => k_is)
    (case c_heq => k_is)
    (case k_heq => k_is)
    (case a_is_silent => k_is)
    (case i_is_silent => k_is)
    (case l_is_silent => k_is)
    (case c_is_silent => k_is)
    (case k_is_silent => k_is)
    (case a_set_faults => k_is)
    (case i_set_faults => k_is)
    (case l_set_faults => k_is)
    (case c_set_faults => k_is)
    (case k_set_faults => k_is)
    (case a_reset => k_is)
    (case i_reset => k_is)
    (case l_reset => k_is)
    (case c_reset => k_is)
    (case k_reset => k_is)
    (case a_pinit => k_is)
    (case i_pinit => k_is)
    (case l_pinit => k_is)
    (case c_pinit => k_is)
    (case k_pinit => k_is)
    (case a_put_fault => k_is)
    (case i_put_fault => k_is)
    (case l_put_fault => k_is)
    (case c_put_fault => k_is)
    (case k_put_fault => k_is)
    (case a_mend_fault => k_is)
    (case i_mend_fault => k_is)
    (case l_mend_fault => k_is)
    (case c_mend_fault => k_is)
    (case k_mend_fault => k_is)
    (case a_check_levels => k_is)
    (case l_check_levels => k_is)
    (case c_check_levels => k_is)
    (case k_check_levels => k_is)
    (case a_count_behind => k_is)
    (case i_count_behind => k_is)
    (case l_count_behind => k_is)
    (case c_count_behind => k_is)
    (case k_count_behind => k_is)
    (case a_beat => k_is)
    (case i_beat => k_is)
    (case l_beat => k_is)
    (case c_beat => k_is)
    (case k_beat => k_is)
    (case a_copied => k_is)
    (case i_copied => k_is)
    (case l_copied => k_is)
    (case c_copied => k_is)
    (case k_copied => k_is)
    (case a_tried => k_is)
    (case l_tried => k_is)
    (case c_tried => k_is)
    (case k_tried => k_is)
    (case a_first_warning => k_is)
    (case l_first_warning => k_is)
    (case c_first_warning => k_is)
    (case k_first_warning => k_is)
    (case w_tF => k_is)
    (case w_eF => k_is)
    (case a_false_levels => k_is)
    (case l_false_levels => k_is)
    (case c_false_levels => k_is)
    (case k_false_levels => k_is)
    (case w_tL => k_is)
    (case w_eL => k_is)
    (case a_open => k_is)
    (case l_open => k_is)
    (case c_open => k_is)
    (case k_open => k_is)
    (case a_draw => k_is)
    (case l_draw => k_is)
    (case c_draw => k_is)
    (case k_draw => k_is)
    (case a_text => k_is)
    (case l_text => k_is)
    (case c_text => k_is)
    (case k_text => k_is)
    (case a_faults => k_is)
    (case l_faults => k_is)
    (case c_faults => k_is)
    (case k_faults => k_is)
    (case a_zone => k_is)
    (case l_zone => k_is)
    (case c_zone => k_is)
    (case k_zone => k_is)
    (case a_open_at => k_is)
    (case l_open_at => k_is)
    (case c_open_at => k_is)
    (case k_open_at => k_is)
    (case a_passed => k_is)
    (case l_passed => k_is)
    (case c_passed => k_is)
    (case k_passed => k_is)
    (case a_spots => k_is)
    (case l_spots => k_is)
    (case c_spots => k_is)
    (case k_spots => k_is)
    (case a_heard => k_is)
    (case l_heard => k_is)
    (case c_heard => k_is)
    (case k_heard => k_is)
    (case a_levels => k_is)
    (case l_levels => k_is)
    (case c_levels => k_is)
    (case k_levels => k_is)
    (case a_step => k_is)
    (case l_step => k_is)
    (case c_step => k_is)
    (case k_step => k_is)
    (case a_ordered => k_is)
    (case l_ordered => k_is)
    (case c_ordered => k_is)
    (case k_ordered => k_is)
    (case a_same => k_is)
    (case l_same => k_is)
    (case c_same => k_is)
    (case k_same => k_is)
    (case a_run => k_is)
    (case l_run => k_is)
    (case c_run => k_is)
    (case k_run => k_is)
    (case a_ltried => k_is)
    (case l_ltried => k_is)
    (case c_ltried => k_is)
    (case k_ltried => k_is)
    (case a_trial => k_is)
    (case l_trial => k_is)
    (case c_trial => k_is)
    (case k_trial => k_is)
    (case a_wrong => k_is)
    (case l_wrong => k_is)
    (case c_wrong => k_is)
    (case k_wrong => k_is)
    (case a_mended => k_is)
    (case l_mended => k_is)
    (case c_mended => k_is)
    (case k_mended => k_is)
    (case a_deed => k_is)
    (case l_deed => k_is)
    (case c_deed => k_is)
    (case k_deed => k_is)
    (case a_silent => k_is)
    (case l_silent => k_is)
    (case c_silent => k_is)
    (case k_silent => k_is)
    (case a_left_out => k_is)
    (case l_left_out => k_is)
    (case c_left_out => k_is)
    (case k_left_out => k_is)
    (case a_least => k_is)
    (case l_least => k_is)
    (case c_least => k_is)
    (case k_least => k_is)
    (case a_law => k_is)
    (case l_law => k_is)
    (case c_law => k_is)
    (case k_law => k_is)
    (case pgR => k_is)
    (case hdR => k_is)
    (case poR => k_is)
    (case saR => k_is)
    (case mkR => k_is)
    (case kcR => k_is)
    (case nT => k_is)
    (case nS => k_is)
    (case nZ => k_is)
    (case pg => k_is)
    (case hd => k_is)
    (case po => k_is)
    (case sa => k_is)
    (case mk => k_is)
    (case kc => k_is)
    (case nBo => k_is)
    (case nRi => k_is)
    (case nMa => k_is)
    (case nRo => k_is)
    (case nNe => k_is)
    (case nLa => k_is)
    (case nSk => k_is)
    (case ica => k_is)
    (case icn => k_is)
    (case ict => k_is)
    (case icm => k_is)
    (case kS => first | k_is | kit_is | (decide +kernel))
    (case pgP => k_is)
    (case hdP => k_is)
    (case poP => k_is)
    (case saP => k_is)
    (case mkP => k_is)
    (case kcP => k_is)
    (case nHo => k_is)
    (case nFa => k_is)
    (case nHe => k_is)
    (case nCo => k_is)
    (case nAl => k_is)
    (case e_aH => k_is)
    (case e_xH => k_is)
    (case e_bH => decide +kernel)
    (case e_sH => k_is)
    (case e_gH => k_is)
    (case e_hH => k_is)
    (case e_nH => k_is)
    (case e_iH => k_is)
    (case e_tH => k_is)
    (case e_lH => k_is)
    (case e_cH => k_is)
    (case e_kH => k_is)
    (case e_eH => k_is)
    (case e_tyH => k_is)
    (case e_dH => k_is)
    (case e_scH => first | rfl | k_is)
    (case e_aR => k_is)
    (case e_xR => k_is)
    (case e_bR => decide +kernel)
    (case e_sR => k_is)
    (case e_gR => k_is)
    (case e_hR => k_is)
    (case e_nR => k_is)
    (case e_iR => k_is)
    (case e_tR => k_is)
    (case e_lR => k_is)
    (case e_cR => k_is)
    (case e_kR => k_is)
    (case e_eR => k_is)
    (case e_tyR => k_is)
    (case e_dR => k_is)
    (case e_scR => first | rfl | k_is)
    (case e_aF => k_is)
    (case e_xF => k_is)
    (case e_bF => decide +kernel)
    (case e_sF => k_is)
    (case e_gF => k_is)
    (case e_hF => k_is)
    (case e_nF => k_is)
    (case e_iF => k_is)
    (case e_tF => k_is)
    (case e_lF => k_is)
    (case e_cF => k_is)
    (case e_kF => k_is)
    (case e_eF => k_is)
    (case e_tyF => k_is)
    (case e_dF => k_is)
    (case e_scF => first | rfl | k_is)
    (case e_aN => k_is)
    (case e_xN => k_is)
    (case e_bN => decide +kernel)
    (case e_sN => k_is)
    (case e_gN => k_is)
    (case e_hN => k_is)
    (case e_nN => k_is)
    (case e_iN => k_is)
    (case e_tN => k_is)
    (case e_lN => k_is)
    (case e_cN => k_is)
    (case e_kN => k_is)
    (case e_eN => k_is)
    (case e_tyN => k_is)
    (case e_dN => k_is)
    (case e_scN => first | rfl | k_is)
    (case e_aV => k_is)
    (case e_xV => k_is)
    (case e_bV => decide +kernel)
    (case e_sV => k_is)
    (case e_gV => k_is)
    (case e_hV => k_is)
    (case e_nV => k_is)
    (case e_mV => k_is)
    (case e_iV => k_is)
    (case e_tV => k_is)
    (case e_lV => k_is)
    (case e_cV => k_is)
    (case e_kV => k_is)
    (case e_eV => k_is)
    (case e_tyV => k_is)
    (case e_dV => k_is)
    (case e_scV => first | rfl | k_is)
    (case x_VF => k_is)
    (case n_DIGITS => k_is)
    (case n_MOST_DIGITS => k_is)
    (case n_GREATEST_SUM => k_is)
    (case n_MOST_SIGNS => k_is)
    (case n_SEEKER => k_is)
    (case n_OPENER => k_is)
    (case n_CUT => k_is)
    (case n_SHORT => k_is)
    (case n_LEFT => k_is)
    (case n_RIGHT => k_is)
    (case n_MOST_ROWS => k_is)
    (case z_abs => k_is)
    (case z_all => k_is)
    (case z_bool => k_is)
    (case z_enumerate => k_is)
    (case z_int => k_is)
    (case z_isinstance => k_is)
    (case z_len => k_is)
    (case z_list => k_is)
    (case z_range => k_is)
    (case z_set => k_is)
    (case z_sorted => k_is)
    (case z_str => k_is)
    (case z_sum => k_is)
    (case z_tuple => k_is)
