import PyProof.Rows.All
import Wide.All
import OpenK.AllK
import Wide.FinOn
import HandS.ForMost
import HandS.SlotsOwn
import HandS.Wide
import HandS.IsInst
import HandS.Style
import HandS.Zip
import HandS.Walk
import HandS.Exc
import HandS.TryOnly
import HandS.ExcOwn
import HandS.WordsExc
import HandS.ExcIs
import KE.OsGo
import HandS.Codes
import HandS.Text
import KE.IntTextLaws
import KE.KExcIs
import KE.DataEq
import KE.KTupSum
import HandS.Defaults
import HandS.MakeKw
import HandS.MakeKwOnly
import HandS.ClsMeth
import HandS.Strs
import KE.GoesMore
import HandS.TupAny
import HandS.TupMul
import HandS.TryMany
import HandS.ExcCtx
import HandS.TupSets
import HandS.SetFor
import HandS.OwnIter
import HandS.IterVal
import PyProof.Rows.SortShellAny
import HandS.SortInts
import KE.KOpsOwn
import PyProof.Rows.RegReprOcc
import HandS.GenList
import HandS.Conv
import PyProof.ListStr
import PyProof.P3In
import KE.DataCmp
import HandS.More
import HandS.Dict
import PyProof.ReprRoads
import PyProof.EqKinds
import PyProof.NeKinds
import HandS.TupLe
import HandS.Sort
import HandS.Star
import HandS.Iter
import PySem.Challenge.RW_wheelchorus_k51_whole_least_lots_of_faul
import HandS.WideBits
set_option Elab.async false
set_option linter.all false
set_option maxRecDepth 100000
set_option maxHeartbeats 4000000
/-! Numbers as lists of digits, their rows, and where two rows part. -/
namespace Wm
open PySem L2
def codes (ds : List Nat) : List Nat := ds.map (· + 48)
def numS (ds : List Nat) : Str := ⟨(codes ds).toArray⟩
structure Dig (ds : List Nat) : Prop where
  dig : ∀ d ∈ ds, 1 ≤ d ∧ d ≤ 9
structure Num (ds : List Nat) : Prop where
  pos : 1 ≤ ds.length
  len : ds.length ≤ 4
  dig : ∀ d ∈ ds, 1 ≤ d ∧ d ≤ 9
  sum : ds.sum ≤ 24
def blk (d : Nat) : List Int := (List.replicate d [1, 0]).flatten
def rowL : List Nat → List Int
  | [] => [0, 0]
  | d :: ds => blk d ++ ([0, 0] ++ rowL ds)
structure Diff (xs ys : List Int) (k : Nat) (a b : Int) : Prop where
  one : xs[k]? = some a
  two : ys[k]? = some b
  ne : a ≠ b
  eq : ∀ j, j < k → xs[j]? = ys[j]?
theorem Diff.symm {xs ys : List Int} {k : Nat} {a b : Int} (h : Diff xs ys k a b) : Diff ys xs k b a :=
  ⟨h.two, h.one, h.ne.symm, fun j l => (h.eq j l).symm⟩
theorem Diff.cons {xs ys : List Int} {k : Nat} {a b : Int} (z : Int) (h : Diff xs ys k a b) : Diff (z :: xs) (z :: ys) (k + 1) a b := by
  refine ⟨by simpa using h.one, by simpa using h.two, h.ne, fun j l => ?_⟩
  cases j with
  | zero => rfl
  | succ j => simpa using h.eq j (by omega)
theorem Diff.app {xs ys : List Int} {k : Nat} {a b : Int} : ∀ (p : List Int), Diff xs ys k a b → Diff (p ++ xs) (p ++ ys) (p.length + k) a b
  | [], h => by simpa using h
  | z :: p, h => by
    have ih := (Diff.app p h).cons z
    have e : (z :: p).length + k = p.length + k + 1 := by simp only [List.length_cons]; omega
    rw [e]
    exact ih
theorem Diff.uniq {xs ys : List Int} {k l : Nat} {a b c d : Int} (h : Diff xs ys k a b) (g : Diff xs ys l c d) : k = l ∧ a = c ∧ b = d := by
  have e : k = l := by
    rcases Nat.lt_trichotomy k l with x | x | x
    · exact absurd (by have q := g.eq k x; rw [h.one, h.two] at q; exact Option.some.inj q) h.ne
    · exact x
    · exact absurd (by have q := h.eq l x; rw [g.one, g.two] at q; exact Option.some.inj q) g.ne
  subst e
  exact ⟨rfl, Option.some.inj (h.one.symm.trans g.one), Option.some.inj (h.two.symm.trans g.two)⟩
theorem Diff.lt1 {xs ys : List Int} {k : Nat} {a b : Int} (h : Diff xs ys k a b) : k < xs.length := (List.getElem?_eq_some_iff.mp h.one).1
theorem Diff.lt2 {xs ys : List Int} {k : Nat} {a b : Int} (h : Diff xs ys k a b) : k < ys.length := (List.getElem?_eq_some_iff.mp h.two).1
theorem blk_add (d e : Nat) : blk (d + e) = blk d ++ blk e := by
  unfold blk
  rw [← List.replicate_append_replicate, List.flatten_append]
theorem blk_succ (e : Nat) : blk (e + 1) = [1, 0] ++ blk e := by
  rw [Nat.add_comm, blk_add]
  rfl
theorem blk_len (d : Nat) : (blk d).length = 2 * d := by
  induction d with
  | zero => rfl
  | succ d ih => rw [blk_succ, List.length_append, ih]; simp only [List.length_cons, List.length_nil]; omega
theorem row_less (d e : Nat) (ds es : List Nat) (h : d < e) : Diff (rowL (d :: ds)) (rowL (e :: es)) (2 * d) 0 1 := by
  obtain ⟨f, rfl⟩ : ∃ f, e = d + (f + 1) := ⟨e - d - 1, by omega⟩
  have h0 : Diff ([0, 0] ++ rowL ds) ([1, 0] ++ (blk f ++ ([0, 0] ++ rowL es))) 0 0 1 := ⟨rfl, rfl, by decide, fun j l => absurd l (Nat.not_lt_zero _)⟩
  have h1 := h0.app (blk d)
  rw [blk_len, Nat.add_zero] at h1
  have e1 : rowL ((d + (f + 1)) :: es) = blk d ++ ([1, 0] ++ (blk f ++ ([0, 0] ++ rowL es))) := by
    show blk (d + (f + 1)) ++ _ = _
    rw [blk_add, blk_succ, List.append_assoc, List.append_assoc]
  rw [e1]
  exact h1
theorem rows_part : ∀ (ds es : List Nat), (∀ d ∈ ds, 1 ≤ d) → (∀ e ∈ es, 1 ≤ e) →
    ds = es ∨ (∃ k, Diff (rowL ds) (rowL es) k 1 0 ∧ es < ds) ∨ (∃ k, Diff (rowL ds) (rowL es) k 0 1 ∧ ds < es)
  | [], [], _, _ => .inl rfl
  | [], e :: es, _, h => by
    obtain ⟨f, rfl⟩ : ∃ f, e = f + 1 := ⟨e - 1, by have := h e (by simp); omega⟩
    refine .inr (.inr ⟨0, ⟨rfl, ?_, by decide, fun j l => absurd l (Nat.not_lt_zero _)⟩, List.nil_lt_cons _ _⟩)
    show (blk (f + 1) ++ _)[0]? = _
    rw [blk_succ]
    rfl
  | d :: ds, [], h, _ => by
    obtain ⟨f, rfl⟩ : ∃ f, d = f + 1 := ⟨d - 1, by have := h d (by simp); omega⟩
    refine .inr (.inl ⟨0, ⟨?_, rfl, by decide, fun j l => absurd l (Nat.not_lt_zero _)⟩, List.nil_lt_cons _ _⟩)
    show (blk (f + 1) ++ _)[0]? = _
    rw [blk_succ]
    rfl
  | d :: ds, e :: es, h, g => by
    rcases Nat.lt_trichotomy d e with x | x | x
    · exact .inr (.inr ⟨_, row_less d e ds es x, List.cons_lt_cons_iff.mpr (.inl x)⟩)
    · subst x
      rcases rows_part ds es (fun y m => h y (List.mem_cons_of_mem _ m)) (fun y m => g y (List.mem_cons_of_mem _ m)) with q | ⟨k, q, l⟩ | ⟨k, q, l⟩
      · exact .inl (by rw [q])
      · exact .inr (.inl ⟨_, (q.app [0, 0]).app (blk d), List.cons_lt_cons_iff.mpr (.inr ⟨rfl, l⟩)⟩)
      · exact .inr (.inr ⟨_, (q.app [0, 0]).app (blk d), List.cons_lt_cons_iff.mpr (.inr ⟨rfl, l⟩)⟩)
    · exact .inr (.inl ⟨_, (row_less e d es ds x).symm, List.cons_lt_cons_iff.mpr (.inl x)⟩)
theorem codes_lt : ∀ (ds es : List Nat), ds < es → codes ds < codes es
  | [], [], h => absurd h (List.lt_irrefl _)
  | [], _ :: _, _ => List.nil_lt_cons _ _
  | _ :: _, [], h => absurd h (List.not_lt_nil _)
  | d :: ds, e :: es, h => by
    rcases List.cons_lt_cons_iff.mp h with x | ⟨x, y⟩
    · exact List.cons_lt_cons_iff.mpr (.inl (Nat.add_lt_add_right x 48))
    · exact List.cons_lt_cons_iff.mpr (.inr ⟨by rw [x], codes_lt ds es y⟩)
theorem codes_inj : ∀ (ds es : List Nat), codes ds = codes es → ds = es
  | [], [], _ => rfl
  | [], _ :: _, h => by simp [codes] at h
  | _ :: _, [], h => by simp [codes] at h
  | d :: ds, e :: es, h => by
    have h1 : d + 48 = e + 48 := (List.cons.inj h).1
    have h2 : codes ds = codes es := (List.cons.inj h).2
    rw [codes_inj ds es h2, show d = e by omega]
theorem numS_cps (ds : List Nat) : (numS ds).cps.toList = codes ds := rfl
theorem numS_inj {ds es : List Nat} (h : numS ds = numS es) : ds = es := codes_inj _ _ (by rw [← numS_cps, h, numS_cps])
theorem numS_len (ds : List Nat) : (numS ds).length = ds.length := by
  show (codes ds).toArray.size = _
  simp [codes]
theorem lt_asymm' {a b : List Nat} (h : a < b) : ¬ b < a := fun g => List.lt_irrefl _ (List.lt_trans h g)
theorem rowL_le : ∀ ds : List Nat, (∀ d ∈ ds, d ≤ 9) → (rowL ds).length ≤ 20 * ds.length + 2
  | [], _ => by decide
  | d :: ds, h => by
    have ih := rowL_le ds fun y m => h y (List.mem_cons_of_mem _ m)
    have hd := h d (by simp)
    show (blk d ++ ([0, 0] ++ rowL ds)).length ≤ _
    rw [List.length_append, List.length_append, blk_len]
    simp only [List.length_cons, List.length_nil]
    omega
end Wm

/-! Digits as signs, texts of digits cut and joined; what a heap keeps. -/
namespace Wm
open PySem L2
theorem dig_cases {d : Nat} (h : 1 ≤ d ∧ d ≤ 9) : d = 1 ∨ d = 2 ∨ d = 3 ∨ d = 4 ∨ d = 5 ∨ d = 6 ∨ d = 7 ∨ d = 8 ∨ d = 9 := by omega
theorem dig_int {d : Nat} (h : 1 ≤ d ∧ d ≤ 9) : PySem.intText? ⟨#[d + 48]⟩ = some (d : Int) := by
  rcases dig_cases h with e | e | e | e | e | e | e | e | e <;> subst e <;> decide +kernel
theorem dig_in {d : Nat} (h : 1 ≤ d ∧ d ≤ 9) : (d + 48) ∈ ("123456789" : Str).cps.toList := by
  rcases dig_cases h with e | e | e | e | e | e | e | e | e <;> subst e <;> decide +kernel
theorem dig_str {d : Nat} (h : 1 ≤ d ∧ d ≤ 9) : ((toString (d : Int) : String) : Str) = numS [d] := by
  rcases dig_cases h with e | e | e | e | e | e | e | e | e <;> subst e <;> decide +kernel
theorem numS_app (ds es : List Nat) : numS ds ++ numS es = numS (ds ++ es) := by
  refine PyProof.Rows.ext_toList ?_
  show ((numS ds).cps ++ (numS es).cps).toList = _
  rw [Array.toList_append, numS_cps, numS_cps, numS_cps]
  simp [codes]
theorem numS_nil : numS [] = ("" : Str) := by decide +kernel
theorem numS_take (ds : List Nat) (k : Nat) : cutS (numS ds) none (some (k : Int)) = numS (ds.take k) := by
  refine PyProof.Rows.ext_toList ?_
  show ((codes ds).drop 0).take (HT.sIx (numS ds).length (numS ds).length (some (k : Int)) - 0) = codes (ds.take k)
  rw [numS_len, HT.sIx_nat, List.drop_zero, Nat.sub_zero]
  simp only [codes, ← List.map_take]
  congr 1
  rw [List.take_eq_take_iff]
  omega
theorem numS_last (ds : List Nat) : cutS (numS ds) none (some (-1)) = numS ds.dropLast := by
  refine PyProof.Rows.ext_toList ?_
  show ((codes ds).drop 0).take (HT.sIx (numS ds).length (numS ds).length (some (-1)) - 0) = codes ds.dropLast
  rw [numS_len, List.drop_zero, Nat.sub_zero, List.dropLast_eq_take]
  simp only [codes, ← List.map_take]
  have e : HT.sIx ds.length ds.length (some (-1)) = ds.length - 1 := by
    unfold HT.sIx
    simp only [show (-1 : Int) < 0 by decide, if_true]
    omega
  rw [e]
theorem numS_at (ds : List Nat) (i : Nat) (hi : i < ds.length) : (numS ds).cps[i]? = some (ds[i] + 48) := by
  show ((codes ds).toArray)[i]? = _
  simp [codes, hi]
theorem numS_size (ds : List Nat) : (numS ds).cps.size = ds.length := numS_len ds

/-! heaps -/
theorem same_new {H : Hp} {p : Addr} {o : HO} (n : H p = none) : Same H (upd H p o) := fun b u e => by
  rw [upd_ne (ne_of_none e n)]
  exact e
theorem at_old {H : Hp} {p q : Addr} {o u : HO} (h : H p = some o) (n : H q = none) : upd H q u p = some o := by
  rw [upd_ne (ne_of_none h n)]
  exact h
theorem sameT {K : PySem.W.Frag} {H H' : Hp} {a : Addr} {xs : List V} (e : Same H H') (h : SqT K H a xs) : SqT K H' a xs := by
  rcases h with (h | ⟨o, h⟩) | h
  · exact .inl (.inl (e _ _ h))
  · exact .inl (.inr ⟨o, e _ _ h⟩)
  · exact .inr h
/-- what stood stands, but for what H did not know and the object at p, which is new since -/
theorem same_mut {H H' : Hp} {p : Addr} {o : HO} (s : Same H H') (n : H p = none) : Same H (upd H' p o) := fun b u e => by
  rw [upd_ne (ne_of_none e n)]
  exact s b u e
/-- the bag's list at b, its cells at c -/
def Cel (H : Hp) (b c : Addr) : Prop := ∃ x k m z : Int, H b = some (.lst [.int x, .ref c, .int k, .int m, .int z])
structure But (b : Addr) (H H' : Hp) : Prop where
  keep : ∀ p o, p ≠ b → H p = some o → H' p = some o
  cel : ∀ c, Cel H b c → Cel H' b c
instance {b : Addr} {H H' : Hp} : CoeFun (But b H H') (fun _ => ∀ p o, p ≠ b → H p = some o → H' p = some o) := ⟨But.keep⟩
theorem But.refl (b : Addr) (H : Hp) : But b H H := ⟨fun _ _ _ h => h, fun _ h => h⟩
theorem But.trans {b : Addr} {H H1 H2 : Hp} (x : But b H H1) (y : But b H1 H2) : But b H H2 := ⟨fun p o n h => y.keep p o n (x.keep p o n h), fun c h => y.cel c (x.cel c h)⟩
theorem But.of {b : Addr} {H H' : Hp} (s : Same H H') : But b H H' := ⟨fun p o _ h => s p o h, fun _ ⟨x, k, m, z, h⟩ => ⟨x, k, m, z, s _ _ h⟩⟩
theorem But.set {b c : Addr} {H : Hp} {x k m z x' k' m' z' : Int} (hb : H b = some (.lst [.int x, .ref c, .int k, .int m, .int z])) : But b H (upd H b (.lst [.int x', .ref c, .int k', .int m', .int z'])) :=
  ⟨fun p u n h => by
    rw [upd_ne n]
    exact h, fun c2 ⟨a1, a2, a3, a4, h⟩ => by
    rw [hb] at h
    have h := Option.some.inj h
    injection h with h
    injection h with h1 h
    injection h with h2 h
    injection h2 with h2
    subst h2
    exact ⟨x', k', m', z', upd_same⟩⟩
/-- the bag of draws: its cells' list and its four numbers -/
def Bag (H : Hp) (b : Addr) (n : Nat) : Prop :=
  ∃ (c : Addr) (x k m z : Int) (ns : List Int), H b = some (.lst [.int x, .ref c, .int k, .int m, .int z]) ∧ H c = some (.lst (ns.map V.int)) ∧ 0 ≤ k ∧ 0 ≤ m ∧ m ≤ (n : Int)
theorem bag_ne {H : Hp} {b c : Addr} {x k m z : Int} {ns : List Int} (hb : H b = some (.lst [.int x, .ref c, .int k, .int m, .int z])) (hc : H c = some (.lst (ns.map V.int))) : c ≠ b := by
  intro e
  subst e
  rw [hb] at hc
  have q := Option.some.inj hc
  have q2 : ([.int x, .ref c, .int k, .int m, .int z] : List V) = ns.map V.int := by injection q
  cases ns with
  | nil => simp at q2
  | cons u r => cases r with
    | nil => simp at q2
    | cons v r => simp at q2
theorem Bag.mono {H : Hp} {b : Addr} {n m : Nat} (h : Bag H b n) (l : n ≤ m) : Bag H b m := by
  obtain ⟨c, x, k, q, z, ns, h1, h2, h3, h4, h5⟩ := h
  exact ⟨c, x, k, q, z, ns, h1, h2, h3, h4, by omega⟩
theorem Bag.keep {H H' : Hp} {b : Addr} {n : Nat} (h : Bag H b n) (s : Same H H') : Bag H' b n := by
  obtain ⟨c, x, k, q, z, ns, h1, h2, h3, h4, h5⟩ := h
  exact ⟨c, x, k, q, z, ns, s _ _ h1, s _ _ h2, h3, h4, h5⟩
theorem Cel.uniq {H : Hp} {b c d : Addr} (h : Cel H b c) (g : Cel H b d) : c = d := by
  obtain ⟨x, k, m, z, h⟩ := h
  obtain ⟨x', k', m', z', g⟩ := g
  rw [h] at g
  have g := Option.some.inj g
  injection g with g
  injection g with g1 g
  injection g with g2 g
  injection g2
theorem But.put {b D : Addr} {H H' : Hp} {o : HO} (e : But b H H') (n : H D = none) : But b H (upd H' D o) := by
  refine ⟨fun p u pb h => ?_, fun c h => ?_⟩
  · rw [upd_ne (ne_of_none h n)]
    exact e.keep p u pb h
  · have h0 := h
    obtain ⟨x, k, m, z, h⟩ := h
    obtain ⟨x', k', m', z', g⟩ := e.cel c h0
    exact ⟨x', k', m', z', by rw [upd_ne (ne_of_none h n)]; exact g⟩
theorem Bag.put {b D : Addr} {H H' : Hp} {o : HO} {n m : Nat} (bag : Bag H b n) (f : H D = none) (e : But b H H') (bag2 : Bag H' b m) : Bag (upd H' D o) b m := by
  obtain ⟨c, x, k, q, z, ns, h1, h2, h3, h4, h5⟩ := bag
  obtain ⟨c', x', k', q', z', ns', g1, g2, g3, g4, g5⟩ := bag2
  have ec : c = c' := Cel.uniq (e.cel c ⟨x, k, q, z, h1⟩) ⟨x', k', q', z', g1⟩
  subst ec
  exact ⟨c, x', k', q', z', ns', by rw [upd_ne (ne_of_none h1 f)]; exact g1, by rw [upd_ne (ne_of_none h2 f)]; exact g2, g3, g4, g5⟩
end Wm
namespace Wm
open PySem L2
theorem yesT {σ : L2.St} {H : Hp} {A B : Hp → Prop} (h : A H) : tYes σ H (fun b H3 => if b = true then A H3 else B H3) := by
  show (if true = true then A H else B H)
  rw [if_pos rfl]
  exact h
end Wm

/-! row[::2] of a list or a tuple; a loop over a list or a tuple. -/
namespace Hf
open PySem PySem.Spec PyProof.Rows L2
def ev2 {α : Type} : List α → List α
  | [] => []
  | [x] => [x]
  | x :: _ :: r => x :: ev2 r
theorem ev2_le {α : Type} : ∀ xs : List α, (ev2 xs).length ≤ xs.length
  | [] => Nat.le_refl _
  | [_] => Nat.le_refl _
  | x :: y :: r => by
    have ih := ev2_le r
    show (ev2 r).length + 1 ≤ r.length + 2
    omega
theorem ev2_mem {α : Type} {z : α} : ∀ {xs : List α}, z ∈ ev2 xs → z ∈ xs
  | [], h => h
  | [_], h => h
  | x :: y :: r, h => by
    rcases List.mem_cons.mp h with e | e
    · rw [e]; simp
    · exact List.mem_cons_of_mem _ (List.mem_cons_of_mem _ (ev2_mem e))
theorem ev2_map {α β : Type} (f : α → β) : ∀ xs : List α, ev2 (xs.map f) = (ev2 xs).map f
  | [] => rfl
  | [_] => rfl
  | x :: y :: r => by
    show f x :: ev2 (r.map f) = f x :: (ev2 r).map f
    rw [ev2_map f r]
theorem ev2_pick {α : Type} : ∀ xs : List α, (List.range ((xs.length + 1) / 2)).filterMap (fun k => xs[2 * k]?) = ev2 xs
  | [] => by simp [ev2]
  | [x] => by
    rw [show ([x].length + 1) / 2 = 1 by simp, show List.range 1 = [0] by decide]
    simp [ev2]
  | x :: y :: r => by
    have ih := ev2_pick r
    have e : ((x :: y :: r).length + 1) / 2 = (r.length + 1) / 2 + 1 := by
      show (r.length + 1 + 1 + 1) / 2 = _
      omega
    rw [e, List.range_succ_eq_map, List.filterMap_cons]
    show x :: _ = x :: ev2 r
    rw [List.filterMap_map, ← ih]
    rfl
theorem ev2_vals : ∀ {xs : List V} {us : List Value}, Vals xs us → Vals (ev2 xs) (ev2 us)
  | [], _, h => by cases h; exact .nil
  | [x], _, h => by
    cases h with
    | cons a b =>
      cases b
      exact .cons a .nil
  | x :: y :: r, _, h => by
    cases h with
    | cons a b =>
      cases b with
      | cons c d => exact .cons a (ev2_vals d)
theorem pick2 (items : Array Value) : slicePick items none none (some 2) = (ev2 items.toList).toArray := by
  have e := ev2_pick items.toList
  unfold slicePick
  have b : sliceBounds none none (some 2) items.size = (0, (items.size : Int), 2) := by
    first
    | rfl
    | simp [sliceBounds]
  rw [b]
  show ((sliceRange 0 (items.size : Int) 2).filterMap (items[·]?)).toArray = _
  have r : sliceRange 0 (items.size : Int) 2 = (List.range ((items.size + 1) / 2)).map fun k => 2 * k := by
    unfold sliceRange
    have h1 : (2 : Int) > 0 := by decide
    by_cases h : (0 : Int) < (items.size : Int)
    · have e : ((items.size : Int) - 0 + 2 - 1) / 2 = (((items.size + 1) / 2 : Nat) : Int) := by omega
      simp only [h1, if_true, h, e, Int.toNat_natCast]
      apply List.map_congr_left
      intro k _
      omega
    · have e : items.size = 0 := by omega
      simp [e]
  rw [r, List.filterMap_map]
  rw [Array.length_toList] at e
  rw [← e]
  refine congrArg List.toArray (congrArg (fun f => List.filterMap f _) (funext fun k => ?_))
  show items[2 * k]? = _
  rw [Array.getElem?_toList]
section
variable {prog : Program} {w : World} {A : Around} {E : Value → Shared → Prop} {s : Shared}
theorem places2 (n : Nat) : Builtin.Slice.slicePlaces 0 (n : Int) 2 = (n + 1) / 2 := by
  unfold Builtin.Slice.slicePlaces
  have h1 : (2 : Int) > 0 := by omega
  simp only [h1, if_true]
  split <;> omega
theorem adjust2 (n : Nat) : Builtin.Slice.sliceAdjust none none 2 (n : Int) = (0, (n : Int)) := by
  have h1 : ¬ ((2 : Int) < 0) := by omega
  unfold Builtin.Slice.sliceAdjust
  simp only [h1, if_false]
theorem sliceApplied2 {sl : Addr} {t : Tok} {n : Nat} {Q : Int × Int × Nat → Shared → Prop} (hs : s.heap.IsSliceOf sl .none .none (.int 2 t))
    (h : Q (0, 2, (n + 1) / 2) s) : wpAny (model prog w) A (Builtin.Slice.sliceApplied (.ref sl) (pure (n : Int))) Q E s := by
  obtain ⟨os, hos, hcs, hds⟩ := id hs
  unfold Builtin.Slice.sliceApplied Builtin.Slice.sliceFields
  refine wpAny_bind (wpAny_bind (wpAny_field hos hds (x := .none) rfl (wpAny_bind (wpAny_field hos hds (x := .none) rfl (wpAny_bind (wpAny_field hos hds (x := .int 2 t) rfl (wpAny_pure ?_)))))))
  refine wpAny_bind (slicePart_int ?_)
  show wpAny _ _ (if ((2 : Int) == 0) = true then _ else _) _ _ s
  rw [if_neg (by decide)]
  refine wpAny_bind (HT.slicePart_ .none (wpAny_bind (HT.slicePart_ .none (wpAny_bind (wpAny_pure ?_)))))
  show wpAny _ _ (match Builtin.Slice.sliceAdjust none none 2 (n : Int) with | (lo, hi) => pure (lo, (2 : Int), Builtin.Slice.slicePlaces lo hi 2)) _ _ s
  rw [adjust2 n]
  show wpAny _ _ (pure ((0 : Int), (2 : Int), Builtin.Slice.slicePlaces (0 : Int) (n : Int) 2)) _ _ s
  rw [places2]
  exact wpAny_pure h
theorem pick2t (xs : Array Value) : ((List.range ((xs.size + 1) / 2)).filterMap fun (m : Nat) => xs[((0 : Int) + (m : Int) * 2).toNat]?).toArray = (ev2 xs.toList).toArray := by
  have e : (fun (m : Nat) => xs[((0 : Int) + (m : Int) * 2).toNat]?) = fun m => xs.toList[2 * m]? := by
    funext m
    have : ((0 : Int) + (m : Int) * 2).toNat = 2 * m := by omega
    rw [this, Array.getElem?_toList]
  rw [e, ← ev2_pick xs.toList, Array.length_toList]
theorem getItem_tuple_2 {t sl : Addr} {tk : Tok} {items : Array Value} {Q : Value → Shared → Prop} (ht : IsTup s.heap t items) (hs : s.heap.IsSliceOf sl .none .none (.int 2 tk))
    (h : Q (.ref s.heap.objs.size) { s with heap := s.heap.push { cls := .type "tuple", data := .seq (ev2 items.toList).toArray } })
    (hsz : items.size ≤ sizeLine) : wpAny (model prog w) A (getItem (.ref t) (.ref sl)) Q E s := by
  have htake : sizeOk (.seq (ev2 items.toList).toArray) := by
    show (ev2 items.toList).toArray.size ≤ sizeLine
    rw [List.size_toArray]
    exact Nat.le_trans (ev2_le items.toList) (by rw [Array.length_toList]; exact hsz)
  obtain ⟨os, hos, hcs, hds⟩ := id hs
  have hTs : s.TypeIs (.ref sl) "slice" := ⟨os, hos, hcs⟩
  unfold getItem
  try with_reducible refine wpAny_holding ?_
  first | refine wpAny_bind (wpAny_pure ?_) | skip
  refine wpAny_bind (wpAny_sequenceKey ht.typeIs (by decide) ?_)
  refine wpAny_bind (wpAny_callSpecial?_slot (name := Str.ofString "__getitem__") ht.typeIs PyProof.Rows.slot_tuple_getitem
    (wpAny_call_entry PyProof.Rows.slot_tuple_getitem ht.typeIs entry_tuple_getitem ?_ (args_tuple_getitem _ _)))
  show wpAny _ _ (Builtin.Tuple.tupleItemsOf (.ref t) >>= _) _ _ s
  refine wpAny_bind (tupleItemsOf_ ht ?_)
  refine wpAny_bind (wpAny_typeOf hTs ?_)
  rw [if_pos (by decide)]
  refine wpAny_bind (sliceApplied2 hs ?_)
  have hno : ¬ (((0 : Int) == 0 && (2 : Int) == 1 && ((items.size + 1) / 2) == items.size) = true) := by
    intro q
    rw [Bool.and_eq_true, Bool.and_eq_true] at q
    exact absurd q.1.2 (by decide)
  show wpAny _ _ (if ((0 : Int) == 0 && (2 : Int) == 1 && ((items.size + 1) / 2) == items.size) = true then _ else _) _ _ s
  rw [if_neg hno, pick2t]
  first
    | exact wpAny_bind (m := Builtin.Tuple.tupleExact _) (wpAny_newObj_type (wpAny_pure ⟨_, rfl, wpAny_pure h⟩) htake)
    | exact wpAny_bind (m := Builtin.Tuple.tupleExact _) (wpAny_newObj_type (wpAny_bind (wpAny_pure (wpAny_pure ⟨_, rfl, wpAny_pure h⟩))) htake)
    | exact wpAny_bind (wpAny_bind (m := Builtin.Tuple.tupleExact _) (wpAny_newObj_type (wpAny_pure (wpAny_pure ⟨_, rfl, wpAny_pure h⟩)) htake))
    | exact wpAny_bind (wpAny_bind (m := Builtin.Tuple.tupleExact _) (wpAny_newObj_type (wpAny_pure ⟨_, rfl, wpAny_pure h⟩) htake))
end
section
variable {X : Cx}
def tHalf (K : PySem.W.Frag) (te : TE) : TE := fun σ H Q => te σ H fun x H1 => ∃ a xs, x = .ref a ∧ (SqL K H1 a xs ∨ SqT K H1 a xs) ∧
  ∀ p H2, (∀ b o, H1 b = some o → H2 b = some o) → H1 p = none → (SqL K H2 p (ev2 xs) ∨ SqT K H2 p (ev2 xs)) → Q (.ref p) H2
theorem new_same {H : Hp} {p : Addr} {o : HO} (n : H p = none) : ∀ b u, H b = some u → upd H p o b = some u := fun b u e => by
  rw [upd_ne (ne_of_none e n)]
  exact e
theorem pe_half {e : Expr} {te : TE} {k : Nat} {p1 p3 pos : Pos} (he : PE X e te) : PE X (.Subscript e (.Slice none none (some (.Constant (.int 2) k p1)) p3) pos) (tHalf X.K te) := by
  refine ⟨fun pins s σ H Q I h => ?_⟩
  refine Subscript_ (thn (he.run pins s σ H _ I h) fun v s1 ⟨x, H1, I1, r1, q1⟩ => ?_)
  obtain ⟨a, xs, ex, hq, q⟩ := q1
  subst ex
  cases r1
  have hst : PO X (some (.Constant (.int 2) k p1)) (tPart (tC (.int 2))) := po_some pe_int
  refine wpAny_Slice (thn (po_none.run pins s1 σ H1 (fun o H2 => o = none ∧ H2 = H1) I1 ⟨rfl, rfl⟩) fun vl s2 ⟨l, H2, I2, pl, el, e2⟩ => ?_)
  subst el e2
  refine thn (po_none.run pins s2 σ H2 (fun o H3 => o = none ∧ H3 = H2) I2 ⟨rfl, rfl⟩) fun vu s3 ⟨u, H3, I3, pu, eu, e3⟩ => ?_
  subst eu e3
  refine thn (hst.run pins s3 σ H3 (fun o H4 => o = some 2 ∧ H4 = H3) I3 ⟨2, rfl, rfl, rfl⟩) fun vs s4 ⟨o, H4, I4, ps, eo, e4⟩ => ?_
  subst eo e4
  have I5 : Inv X pins σ H4 { s4 with heap := s4.heap.push { cls := .type "slice", data := .fields #[vl, vu, vs] } } := I4.kept (t' := s4.toks) fun b ob q => Heap.get?_push_of_some _ q
  rcases hq with hx | hx
  · obtain ⟨its, r, ht, hz⟩ := I5.list hx
    have hlen := r.length
    show wpAny (model X.prog X.w) X.A (subscriptTail e (.Slice none none (some (.Constant (.int 2) k p1)) p3) (.ref a) (.ref s4.heap.objs.size)) (EP X pins σ Q) X.xe { s4 with heap := s4.heap.push { cls := .type "slice", data := .fields #[vl, vu, vs] } }
    refine tail_any (ops := [.ref a, .ref s4.heap.objs.size]) ht.isList.typeIs (PySem.slot_list_getitem.lookup) ?_ (by with_unfolding_all rfl)
    refine wpAny_getItem_list_slice ht.isList (Heap.IsSliceOf.new _ vl vu vs) pl pu ps (by decide) ?_ (by rw [List.size_toArray]; omega)
    rw [pick2]
    refine ⟨.ref _, _, I5.laid (t' := s4.toks) (o := .lst (ev2 xs)) (fun b ob q => Heap.get?_push_of_some _ q) (Nat.le_refl _) ?_, rfl, q _ _ (new_same (I5.hok.fresh (Nat.le_refl _))) (I5.hok.fresh (Nat.le_refl _)) (.inl (SqL.of upd_same))⟩
    exact ⟨Nat.le_trans (ev2_le xs) hz, _, 0, ev2_vals r, Heap.get?_push_size _ rfl⟩
  · obtain ⟨its, r, ht, hz⟩ := I5.tuple hx
    have hlen := r.length
    cases pl
    cases pu
    cases ps
    show wpAny (model X.prog X.w) X.A (subscriptTail e (.Slice none none (some (.Constant (.int 2) k p1)) p3) (.ref a) (.ref s4.heap.objs.size)) (EP X pins σ Q) X.xe { s4 with heap := s4.heap.push { cls := .type "slice", data := .fields #[Value.none, Value.none, .int 2 _] } }
    refine tail_any (ops := [.ref a, .ref s4.heap.objs.size]) ht.typeIs (PyProof.Rows.slot_tuple_getitem.lookup) ?_ (by with_unfolding_all rfl)
    refine getItem_tuple_2 ht (Heap.IsSliceOf.new _ _ _ _) ?_ (by rw [List.size_toArray]; omega)
    refine ⟨.ref _, _, I5.laid (t' := s4.toks) (o := .tup (ev2 xs)) (fun b ob q => Heap.get?_push_of_some _ q) (Nat.le_refl _) ?_, rfl, q _ _ (new_same (I5.hok.fresh (Nat.le_refl _))) (I5.hok.fresh (Nat.le_refl _)) (.inr (SqT.of upd_same))⟩
    exact ⟨Nat.le_trans (ev2_le xs) hz, _, ev2_vals r, IsTup.new _ _⟩
theorem keepL {K : PySem.W.Frag} {H H' : Hp} {a : Addr} {xs : List V} (e : Same H H') (h : SqL K H a xs) : SqL K H' a xs := by
  rcases h with (h | ⟨o, h⟩) | h
  · exact .inl (.inl (e _ _ h))
  · exact .inl (.inr ⟨o, e _ _ h⟩)
  · exact .inr h
theorem keepT {K : PySem.W.Frag} {H H' : Hp} {a : Addr} {xs : List V} (e : Same H H') (h : SqT K H a xs) : SqT K H' a xs := by
  rcases h with (h | ⟨o, h⟩) | h
  · exact .inl (.inl (e _ _ h))
  · exact .inl (.inr ⟨o, e _ _ h⟩)
  · exact .inr h
def iSeq (K : PySem.W.Frag) (tl : TE) : TI := fun σ H R => tl σ H fun x H1 => ∃ a xs, x = .ref a ∧ (SqL K H1 a xs ∨ SqT K H1 a xs) ∧
  ∀ J G, Walk J xs.length G (YAt xs) → (∀ H', Same H1 H' → G H') → R J H1
theorem pi_seq {tg l : Expr} {tl : TE} (hl : PE X l tl) : PI X tg l (iSeq X.K tl) := by
  refine ⟨fun pins s σ H R I h => ?_⟩
  refine thn (hl.run pins s σ H _ I h) fun v s1 ⟨x, H1, I1, r1, q1⟩ => ?_
  obtain ⟨a, xs, e, hq, q⟩ := q1
  subst e
  cases r1
  rcases hq with hq | hq
  · have q := q _ _ walk_list fun H' s => keepL s hq
    obtain ⟨its, rv, p, hz⟩ := I1.list hq
    refine wpAny_pyIter_list p.isList ?_
    refine ⟨s1.heap.objs.size, [s1.heap.objs.size], _, _, H1, rfl, I1.kept (t' := s1.toks) fun b o e => Heap.get?_push_of_some _ e, turn_list a _, ⟨_, Heap.get?_push_size _ rfl, rfl, rfl⟩, fun b hb => ?_, q⟩
    have e : b = s1.heap.objs.size := by simpa using hb
    subst e
    exact I1.fpOk (Nat.le_refl _) (I1.hok.fresh (Nat.le_refl _))
  · have q := q _ _ walk_tup fun H' s => keepT s hq
    obtain ⟨its, rv, p, hz⟩ := I1.tuple hq
    refine wpAny_pyIter_tuple (show s1.heap.IsTuple a its.toArray from p) ?_
    refine ⟨s1.heap.objs.size, [s1.heap.objs.size], _, _, H1, rfl, I1.kept (t' := s1.toks) fun b o e => Heap.get?_push_of_some _ e, turn_tuple a _, ⟨_, Heap.get?_push_size _ rfl, rfl, rfl⟩, fun b hb => ?_, q⟩
    have e : b = s1.heap.objs.size := by simpa using hb
    subst e
    exact I1.fpOk (Nat.le_refl _) (I1.hok.fresh (Nat.le_refl _))
end
end Hf

/-! Rows read back: strokes, steps, groups. -/
namespace Wm
open PySem L2 TL
/-- the rows of the first digits, without the two ticks at the end -/
def pre : List Nat → List Int
  | [] => []
  | d :: ds => blk d ++ ([0, 0] ++ pre ds)
theorem pre_app : ∀ (ds : List Nat) (d : Nat), pre (ds ++ [d]) = pre ds ++ (blk d ++ [0, 0])
  | [], d => by show blk d ++ ([0, 0] ++ []) = [] ++ _; simp
  | e :: ds, d => by
    show blk e ++ ([0, 0] ++ pre (ds ++ [d])) = (blk e ++ ([0, 0] ++ pre ds)) ++ _
    rw [pre_app ds d]
    simp only [List.append_assoc]
theorem pre_row : ∀ ds : List Nat, pre ds ++ [0, 0] = rowL ds
  | [] => rfl
  | d :: ds => by
    show (blk d ++ ([0, 0] ++ pre ds)) ++ _ = blk d ++ ([0, 0] ++ rowL ds)
    rw [← pre_row ds]
    simp only [List.append_assoc]
theorem blk_V (d : Nat) : (List.replicate d [V.int 1, V.int 0]).flatten = (blk d).map V.int := by
  unfold blk
  rw [List.map_flatten, List.map_replicate]
  rfl
theorem pre_le : ∀ ds : List Nat, (∀ d ∈ ds, d ≤ 9) → (pre ds).length ≤ 20 * ds.length
  | [], _ => by decide
  | d :: ds, h => by
    have ih := pre_le ds fun y m => h y (List.mem_cons_of_mem _ m)
    have hd := h d (by simp)
    show (blk d ++ ([0, 0] ++ pre ds)).length ≤ _
    rw [List.length_append, List.length_append, blk_len]
    simp only [List.length_cons, List.length_nil]
    omega
theorem take_succ_app {α : Type} {l : List α} {i : Nat} {x : α} (h : l[i]? = some x) : l.take (i + 1) = l.take i ++ [x] := by
  rw [List.take_add_one, h]
  rfl
theorem take_succ_map {α β : Type} {l : List α} {i : Nat} {x : α} (f : α → β) (h : l[i]? = some x) : (l.take i).map f ++ [f x] = (l.take (i + 1)).map f := by
  rw [take_succ_app h, List.map_append]
  rfl
theorem row_sum : ∀ ds : List Nat, (rowL ds).length = 2 * (ds.sum + ds.length + 1)
  | [] => rfl
  | d :: ds => by
    have ih := row_sum ds
    show (blk d ++ ([0, 0] ++ rowL ds)).length = _
    rw [List.length_append, List.length_append, blk_len, ih, List.sum_cons]
    simp only [List.length_cons, List.length_nil]
    omega
theorem row_le (ds : List Nat) (N : Num ds) : (rowL ds).length ≤ 100 := by
  have h := rowL_le ds fun d m => (N.dig d m).2
  have l := N.len
  omega
theorem row_bits : ∀ (ds : List Nat) (z : Int), z ∈ rowL ds → z = 0 ∨ z = 1
  | [], z, h => by
    have h : z ∈ [0, 0] := h
    simp only [List.mem_cons, List.not_mem_nil, or_false, or_self] at h
    exact .inl h
  | d :: ds, z, h => by
    have h : z ∈ blk d ++ ([0, 0] ++ rowL ds) := h
    rw [List.mem_append, List.mem_append] at h
    rcases h with h | h | h
    · obtain ⟨l, hl, hz⟩ := List.mem_flatten.mp h
      rw [(List.mem_replicate.mp hl).2] at hz
      simp only [List.mem_cons, List.not_mem_nil, or_false] at hz
      exact hz.symm
    · simp only [List.mem_cons, List.not_mem_nil, or_false, or_self] at h
      exact .inl h
    · exact row_bits ds z h
/-! strokes -/
def ones : Nat → List Int → List Nat
  | _, [] => []
  | o, x :: xs => if x = 1 then o :: ones (o + 1) xs else ones (o + 1) xs
theorem ones_app : ∀ (a : List Int) (o : Nat) (b : List Int), ones o (a ++ b) = ones o a ++ ones (o + a.length) b
  | [], o, b => rfl
  | x :: a, o, b => by
    have ih := ones_app a (o + 1) b
    have e : o + (x :: a).length = o + 1 + a.length := by rw [List.length_cons]; omega
    rw [e]
    show (if x = 1 then o :: ones (o + 1) (a ++ b) else ones (o + 1) (a ++ b)) = (if x = 1 then o :: ones (o + 1) a else ones (o + 1) a) ++ _
    rw [ih]
    by_cases c : x = 1
    · rw [if_pos c, if_pos c]; rfl
    · rw [if_neg c, if_neg c]
theorem ones_mem : ∀ (xs : List Int) (o k : Nat), k ∈ ones o xs ↔ ∃ j, k = o + j ∧ xs[j]? = some 1
  | [], o, k => by simp [ones]
  | x :: xs, o, k => by
    have ih := ones_mem xs (o + 1) k
    show k ∈ (if x = 1 then o :: ones (o + 1) xs else ones (o + 1) xs) ↔ _
    constructor
    · intro h
      by_cases c : x = 1
      · rw [if_pos c] at h
        rcases List.mem_cons.mp h with e | e
        · exact ⟨0, by omega, by rw [c]; rfl⟩
        · obtain ⟨j, e1, e2⟩ := ih.mp e
          exact ⟨j + 1, by omega, by simpa using e2⟩
      · rw [if_neg c] at h
        obtain ⟨j, e1, e2⟩ := ih.mp h
        exact ⟨j + 1, by omega, by simpa using e2⟩
    · rintro ⟨j, e1, e2⟩
      cases j with
      | zero =>
        have c : x = 1 := Option.some.inj e2
        rw [if_pos c]
        exact List.mem_cons.mpr (.inl (by omega))
      | succ j =>
        have m : k ∈ ones (o + 1) xs := ih.mpr ⟨j, by omega, by simpa using e2⟩
        by_cases c : x = 1
        · rw [if_pos c]; exact List.mem_cons_of_mem _ m
        · rw [if_neg c]; exact m
theorem ones_blk (o d : Nat) : ones o (blk (d + 1)) = ones o (blk d) ++ [o + 2 * d] := by
  rw [blk_add, ones_app, blk_len]
  rfl
theorem ones_end (a : List Int) (o : Nat) : ones o (a ++ [0, 0]) = ones o a := by
  rw [ones_app]
  show ones o a ++ [] = _
  rw [List.append_nil]
theorem step2 (s : List Nat) (d : Nat) : ones 0 (pre s ++ blk (d + 1)) = ones 0 (pre s ++ blk d) ++ [(pre s).length + 2 * d] := by
  rw [ones_app, ones_app, ones_blk, List.append_assoc, Nat.zero_add]
theorem step4 (s : List Nat) (d : Nat) : ones 0 (pre (s ++ [d]) ++ blk 1) = ones 0 (pre s ++ blk d) ++ [(pre s).length + 2 * d + 2] := by
  rw [ones_app, pre_app, ← List.append_assoc, ones_end]
  have e : ((pre s ++ blk d) ++ ([0, 0] : List Int)).length = (pre s).length + 2 * d + 2 := by
    rw [List.length_append, List.length_append, blk_len]
    rfl
  rw [e, Nat.zero_add]
  rfl
theorem ones_row (s : List Nat) (d : Nat) : ones 0 (rowL (s ++ [d])) = ones 0 (pre s ++ blk d) := by
  rw [← pre_row, pre_app, ← List.append_assoc, ones_end, ones_end]
theorem ones_inj {ds es : List Nat} (h1 : ∀ d ∈ ds, 1 ≤ d) (h2 : ∀ e ∈ es, 1 ≤ e) (h : ones 0 (rowL ds) = ones 0 (rowL es)) : ds = es := by
  rcases rows_part ds es h1 h2 with q | ⟨k, q, _⟩ | ⟨k, q, _⟩
  · exact q
  · have m : k ∈ ones 0 (rowL ds) := (ones_mem _ _ _).mpr ⟨k, by omega, q.one⟩
    rw [h] at m
    obtain ⟨j, e1, e2⟩ := (ones_mem _ _ _).mp m
    rw [show j = k by omega, q.two] at e2
    cases e2
  · have m : k ∈ ones 0 (rowL es) := (ones_mem _ _ _).mpr ⟨k, by omega, q.two⟩
    rw [← h] at m
    obtain ⟨j, e1, e2⟩ := (ones_mem _ _ _).mp m
    rw [show j = k by omega, q.one] at e2
    cases e2
def St (l : List Nat) : Prop := ∀ (k a b : Nat), l[k]? = some a → l[k + 1]? = some b → b = a + 2 ∨ b = a + 4
theorem St.cons {x : Nat} {l : List Nat} (h : ∀ y, l.head? = some y → y = x + 2 ∨ y = x + 4) (s : St l) : St (x :: l) := by
  intro k a b e1 e2
  cases k with
  | zero =>
    have e : x = a := Option.some.inj e1
    subst e
    refine h b ?_
    rw [List.head?_eq_getElem?]
    exact e2
  | succ k => exact s k a b (by simpa using e1) (by simpa using e2)
theorem steps_blk {l : List Int} (hl : ∀ o, St (ones o l) ∧ ∀ y, (ones o l).head? = some y → y = o) : ∀ (d o : Nat), St (ones o (blk d ++ ([0, 0] ++ l))) ∧ ∀ y, (ones o (blk d ++ ([0, 0] ++ l))).head? = some y → (y = o ∨ y = o + 2)
  | 0, o => by
    have h := hl (o + 2)
    exact ⟨h.1, fun y e => .inr (h.2 y e)⟩
  | d + 1, o => by
    have ih := steps_blk hl d (o + 2)
    have e : ones o (blk (d + 1) ++ ([0, 0] ++ l)) = o :: ones (o + 2) (blk d ++ ([0, 0] ++ l)) := by
      rw [blk_succ]
      rfl
    rw [e]
    refine ⟨ih.1.cons fun y q => ?_, fun y q => .inl (Option.some.inj q).symm⟩
    rcases ih.2 y q with z | z
    · exact .inl z
    · exact .inr (by omega)
theorem steps_row : ∀ (es : List Nat), (∀ d ∈ es, 1 ≤ d) → ∀ o, St (ones o (rowL es)) ∧ ∀ y, (ones o (rowL es)).head? = some y → y = o
  | [], _, o => ⟨fun k a b (e : (none : Option Nat) = some a) => (by cases e), fun y (e : (none : Option Nat) = some y) => by cases e⟩
  | d :: es, h, o => by
    have ih := steps_row es fun y m => h y (List.mem_cons_of_mem _ m)
    obtain ⟨f, rfl⟩ : ∃ f, d = f + 1 := ⟨d - 1, by have := h d (by simp); omega⟩
    have q := steps_blk ih (f + 1) o
    refine ⟨q.1, fun y e => ?_⟩
    have e' : ones o (rowL ((f + 1) :: es)) = o :: ones (o + 2) (blk f ++ ([0, 0] ++ rowL es)) := by
      show ones o (blk (f + 1) ++ _) = _
      rw [blk_succ]
      rfl
    rw [e'] at e
    exact (Option.some.inj e).symm
theorem first_row (d : Nat) (es : List Nat) (h : 1 ≤ d) : (ones 0 (rowL (d :: es)))[0]? = some 0 := by
  obtain ⟨f, rfl⟩ : ∃ f, d = f + 1 := ⟨d - 1, by omega⟩
  show (ones 0 (blk (f + 1) ++ _))[0]? = _
  rw [blk_succ]
  rfl
/-! groups -/
def gaps : List Int → List Nat
  | [] => [0]
  | z :: zs => if z = 1 then (match gaps zs with | [] => [1] | g :: gs => (g + 1) :: gs) else 0 :: gaps zs
theorem gaps_ne : ∀ zs, gaps zs ≠ []
  | [] => by simp [gaps]
  | z :: zs => by
    show (if z = 1 then (match gaps zs with | [] => [1] | g :: gs => (g + 1) :: gs) else 0 :: gaps zs) ≠ []
    by_cases c : z = 1
    · rw [if_pos c]
      split <;> simp
    · rw [if_neg c]; simp
def bits (zs : List Int) : List Nat := zs.map fun z => if z = 1 then 49 else 48
theorem joinL_cons {s : List Nat} {p : List Nat} {ps : List (List Nat)} (h : ps ≠ []) : joinL s (p :: ps) = p ++ (s ++ joinL s ps) := by
  cases ps with
  | nil => exact absurd rfl h
  | cons q r => rfl
theorem joinL_one (s p : List Nat) : joinL s [p] = p := rfl
theorem map_ne {α β : Type} {f : α → β} {l : List α} (h : l ≠ []) : l.map f ≠ [] := fun e => h (List.map_eq_nil_iff.mp e)
theorem gaps_join : ∀ zs, bits zs = joinL [48] ((gaps zs).map fun g => List.replicate g 49)
  | [] => rfl
  | z :: zs => by
    have ih := gaps_join zs
    have ne := gaps_ne zs
    show (if z = 1 then 49 else 48) :: bits zs = joinL [48] ((if z = 1 then (match gaps zs with | [] => [1] | g :: gs => (g + 1) :: gs) else 0 :: gaps zs).map _)
    by_cases c : z = 1
    · rw [if_pos c, if_pos c]
      cases e : gaps zs with
      | nil => exact absurd e ne
      | cons g gs =>
        rw [e] at ih
        rw [ih]
        cases gs with
        | nil => rfl
        | cons g2 gs => rfl
    · rw [if_neg c, if_neg c, List.map_cons, joinL_cons (map_ne ne), ← ih]
      rfl
theorem gaps_sum : ∀ zs, (gaps zs).sum ≤ zs.length ∧ (gaps zs).length ≤ zs.length + 1
  | [] => by decide
  | z :: zs => by
    have ih := gaps_sum zs
    show (if z = 1 then (match gaps zs with | [] => [1] | g :: gs => (g + 1) :: gs) else 0 :: gaps zs).sum ≤ zs.length + 1 ∧ (if z = 1 then (match gaps zs with | [] => [1] | g :: gs => (g + 1) :: gs) else 0 :: gaps zs).length ≤ zs.length + 1 + 1
    by_cases c : z = 1
    · rw [if_pos c]
      cases e : gaps zs with
      | nil => exact absurd e (gaps_ne zs)
      | cons g gs =>
        rw [e, List.sum_cons, List.length_cons] at ih
        show ((g + 1) :: gs).sum ≤ _ ∧ ((g + 1) :: gs).length ≤ _
        rw [List.sum_cons, List.length_cons]
        omega
    · rw [if_neg c, List.sum_cons, List.length_cons]
      omega
theorem mem_sum {g : Nat} : ∀ {l : List Nat}, g ∈ l → g ≤ l.sum
  | a :: l, h => by
    rw [List.sum_cons]
    rcases List.mem_cons.mp h with e | e
    · omega
    · have := mem_sum e
      omega
theorem gaps_le {zs : List Int} {g : Nat} (h : g ∈ gaps zs) : g ≤ zs.length := by
  have h1 := (gaps_sum zs).1
  have h2 : g ≤ (gaps zs).sum := mem_sum h
  omega
theorem ev2_row : ∀ ds, Hf.ev2 (rowL ds) = (match ds with | [] => [0] | d :: r => List.replicate d 1 ++ (0 :: Hf.ev2 (rowL r)))
  | [] => rfl
  | d :: r => by
    show Hf.ev2 (blk d ++ ([0, 0] ++ rowL r)) = List.replicate d 1 ++ (0 :: Hf.ev2 (rowL r))
    induction d with
    | zero => rfl
    | succ d ih =>
      rw [blk_succ, List.replicate_succ]
      show (1 : Int) :: Hf.ev2 (blk d ++ ([0, 0] ++ rowL r)) = _
      rw [ih]
      rfl
theorem gaps_rep (l : List Int) (d : Nat) : gaps (List.replicate d 1 ++ (0 :: l)) = d :: gaps l := by
  induction d with
  | zero => rfl
  | succ d ih =>
    rw [List.replicate_succ]
    show (if (1 : Int) = 1 then (match gaps (List.replicate d 1 ++ (0 :: l)) with | [] => [1] | g :: gs => (g + 1) :: gs) else _) = _
    rw [if_pos rfl, ih]
theorem gaps_row : ∀ ds, gaps (Hf.ev2 (rowL ds)) = ds ++ [0, 0]
  | [] => rfl
  | d :: r => by
    rw [ev2_row]
    show gaps (List.replicate d 1 ++ (0 :: Hf.ev2 (rowL r))) = _
    rw [gaps_rep, gaps_row r]
    rfl
end Wm

/-! Ticks of bent rows as data. -/
namespace Wm
open PySem L2
inductive Tk : PyData → Prop
  | int {i : Int} : i.natAbs < 1000000 → Tk (.int i)
  | bl (b : Bool) : Tk (.bool b)
  | non : Tk .none
  | one : Tk (.str "1")
  | lst : Tk (.list [.int 0])
def Item (K : PySem.W.Frag) (H : Hp) (x : V) : Prop := ∃ d, Dp K H x d ∧ Tk d
theorem sqL_keep {K : PySem.W.Frag} {H H' : Hp} {a : Addr} {xs : List V} (e : Same H H') (h : SqL K H a xs) : SqL K H' a xs := by
  rcases h with (h | ⟨o, h⟩) | h
  · exact .inl (.inl (e _ _ h))
  · exact .inl (.inr ⟨o, e _ _ h⟩)
  · exact .inr h
theorem tk_keep {K : PySem.W.Frag} {H H' : Hp} {x : V} {d : PyData} (e : Same H H') (h : Dp K H x d) (t : Tk d) : Dp K H' x d := by
  cases t with
  | int _ => cases h; exact .int _
  | bl b => cases h; exact .bl _
  | non => cases h; exact .non
  | one => cases h; exact .str _
  | lst =>
    cases h with
    | lst q a =>
      refine .lst (sqL_keep e q) ?_
      cases a with
      | cons b c =>
        cases b
        cases c
        exact .cons (.int _) .nil
theorem Item.keep {K : PySem.W.Frag} {H H' : Hp} {x : V} (e : Same H H') (h : Item K H x) : Item K H' x := let ⟨d, a, b⟩ := h; ⟨d, tk_keep e a b, b⟩
theorem tks_keep {K : PySem.W.Frag} {H H' : Hp} (e : Same H H') : ∀ {xs : List V} {ds : List PyData}, DpAll K H xs ds → (∀ d ∈ ds, Tk d) → DpAll K H' xs ds
  | _, _, .nil, _ => .nil
  | _, _, .cons a b, t => .cons (tk_keep e a (t _ (by simp))) (tks_keep e b fun d m => t d (List.mem_cons_of_mem _ m))
theorem items_data {K : PySem.W.Frag} {H : Hp} : ∀ {xs : List V}, (∀ x ∈ xs, Item K H x) → ∃ ds, DpAll K H xs ds ∧ (∀ d ∈ ds, Tk d) ∧ ds.length = xs.length
  | [], _ => ⟨[], .nil, by simp, rfl⟩
  | x :: xs, h => by
    obtain ⟨d, a, b⟩ := h x (by simp)
    obtain ⟨ds, c1, c2, c3⟩ := items_data (xs := xs) fun y m => h y (List.mem_cons_of_mem _ m)
    refine ⟨d :: ds, .cons a c1, fun y m => ?_, by rw [List.length_cons, List.length_cons, c3]⟩
    rcases List.mem_cons.mp m with q | q
    · rw [q]; exact b
    · exact c2 y q
theorem item_int {K : PySem.W.Frag} {H : Hp} {i : Int} (h : i.natAbs < 1000000) : Item K H (.int i) := ⟨_, .int i, .int h⟩
theorem tk_lay {d : PyData} (t : Tk d) : d.canLay0 = true ∧ d.depth ≤ 1 := by
  cases t with
  | int _ => exact ⟨by simp [PyData.canLay0], by simp [PyData.depth]⟩
  | bl b => exact ⟨by simp [PyData.canLay0], by simp [PyData.depth]⟩
  | non => exact ⟨by simp [PyData.canLay0], by simp [PyData.depth]⟩
  | one => exact ⟨by decide +kernel, by simp [PyData.depth]⟩
  | lst => exact ⟨by simp [PyData.canLay0, PyData.canLayAll0], by simp [PyData.depth, PyData.depthAll]⟩
theorem tks_lay : ∀ {ds : List PyData}, (∀ d ∈ ds, Tk d) → PyData.canLayAll0 ds = true ∧ PyData.depthAll ds ≤ 1
  | [], _ => by simp [PyData.canLayAll0, PyData.depthAll]
  | d :: ds, h => by
    have h1 := tk_lay (h d (by simp))
    have h2 := tks_lay (ds := ds) fun y m => h y (List.mem_cons_of_mem _ m)
    simp only [PyData.canLayAll0, PyData.depthAll, h1.1, h2.1, Bool.and_self, true_and]
    omega
theorem tks_shaped {ds : List PyData} (h : ∀ d ∈ ds, Tk d) : SeqAt.shaped (.list ds) = true := by
  have q := tks_lay h
  have e : decide ((PyData.list ds).depth ≤ 64) = true := decide_eq_true (by simp only [PyData.depth]; omega)
  show ((PyData.list ds).canLay0 && _) = true
  rw [e, Bool.and_true]
  exact q.1
theorem tk_show {d : PyData} (t : Tk d) : d.showable = true ∧ d.hasDict = false ∧ d.leavesShort 13 = true ∧ d.weight ≤ 30 := by
  cases t with
  | @int i h =>
    have hl : i.natAbs.log2 < 20 ∨ i = 0 := by
      by_cases z : i = 0
      · exact .inr z
      · exact .inl ((Nat.log2_lt (by omega)).mpr (by omega))
    refine ⟨decide_eq_true ?_, rfl, decide_eq_true (PyData.shown_int_le (by omega)), ?_⟩
    · rcases hl with z | z
      · omega
      · subst z; decide
    · rcases hl with z | z
      · simp only [PyData.weight]; split <;> omega
      · subst z; decide
  | bl b => exact ⟨rfl, rfl, rfl, by simp [PyData.weight]⟩
  | non => exact ⟨rfl, rfl, rfl, by simp [PyData.weight]⟩
  | one => exact ⟨rfl, rfl, by decide +kernel, by decide +kernel⟩
  | lst => exact ⟨by decide +kernel, rfl, by decide +kernel, by decide +kernel⟩
theorem tks_show : ∀ {ds : List PyData}, (∀ d ∈ ds, Tk d) → PyData.showableAll ds = true ∧ PyData.hasDictAll ds = false ∧ PyData.leavesShortAll 13 ds = true ∧ PyData.weightAll ds ≤ 31 * ds.length
  | [], _ => by simp [PyData.showableAll, PyData.hasDictAll, PyData.leavesShortAll, PyData.weightAll]
  | d :: ds, h => by
    have h1 := tk_show (h d (by simp))
    have h2 := tks_show (ds := ds) fun y m => h y (List.mem_cons_of_mem _ m)
    simp only [PyData.showableAll, PyData.hasDictAll, PyData.leavesShortAll, PyData.weightAll, h1.1, h1.2.1, h1.2.2.1, h2.1, h2.2.1, h2.2.2.1, Bool.and_self, Bool.or_self, true_and, List.length_cons]
    omega
theorem tks_shown {ds : List PyData} (h : ∀ d ∈ ds, Tk d) (l : ds.length ≤ 1000) : (PyData.list ds).shown.length ≤ sizeLine :=
  PyData.shown_fits (B := 13) (by decide) (by decide) (tks_show h).2.2.1 (Nat.le_trans (tks_show h).2.2.2 (by omega))
def isI : V → Bool
  | .int _ => true
  | _ => false
def isBit (x : V) : Bool := decide (x = .int 0) || decide (x = .int 1)
theorem all_ints {xs : List V} (h : ∀ x ∈ xs, isI x = true) : ∃ zs : List Int, xs = zs.map V.int := by
  induction xs with
  | nil => exact ⟨[], rfl⟩
  | cons x xs ih =>
    obtain ⟨zs, e⟩ := ih fun y m => h y (List.mem_cons_of_mem _ m)
    have hx := h x (by simp)
    cases x with
    | int i => exact ⟨i :: zs, by rw [e]; rfl⟩
    | _ => cases hx
theorem all_bits {xs : List V} (h : ∀ x ∈ xs, isBit x = true) : ∃ zs : List Int, xs = zs.map V.int ∧ ∀ z ∈ zs, z = 0 ∨ z = 1 := by
  induction xs with
  | nil => exact ⟨[], rfl, by simp⟩
  | cons x xs ih =>
    obtain ⟨zs, e, b⟩ := ih fun y m => h y (List.mem_cons_of_mem _ m)
    have hx := h x (by simp)
    have hc : x = .int 0 ∨ x = .int 1 := by
      rcases Bool.or_eq_true_iff.mp hx with q | q
      · exact .inl (of_decide_eq_true q)
      · exact .inr (of_decide_eq_true q)
    have : ∃ i : Int, x = .int i ∧ (i = 0 ∨ i = 1) := by
      rcases hc with q | q
      · exact ⟨0, q, .inl rfl⟩
      · exact ⟨1, q, .inr rfl⟩
    obtain ⟨i, rfl, hi⟩ := this
    refine ⟨i :: zs, by rw [e]; rfl, fun z m => ?_⟩
    rcases List.mem_cons.mp m with q | q
    · rw [q]; exact hi
    · exact b z q
/-- what isinstance asks of such a tick -/
theorem tyx_of {K : PySem.W.Frag} {H : Hp} {x : V} (h : Item K H x) : ∃ (n : String) (a b : Bool), TyX K H x (.type n) ∧ PySem.W.kitOne K (.type n) (.type "int") = some a ∧
    PySem.W.kitOne K (.type n) (.type "bool") = some b ∧ (a && !b) = isI x := by
  obtain ⟨d, h, t⟩ := h
  cases t with
  | int _ => cases h; exact ⟨"int", true, false, .base (.int _), kit_ty (by decide +kernel), kit_ty (by decide +kernel), rfl⟩
  | bl b => cases h; exact ⟨"bool", true, true, .base (.bl _), kit_ty (by decide +kernel), kit_ty (by decide +kernel), rfl⟩
  | non => cases h; exact ⟨"NoneType", false, false, .base .non, kit_ty (by decide +kernel), kit_ty (by decide +kernel), rfl⟩
  | one => cases h; exact ⟨"str", false, false, .base (.str _), kit_ty (by decide +kernel), kit_ty (by decide +kernel), rfl⟩
  | lst =>
    cases h with
    | lst q a =>
      rcases q with (q | ⟨o, q⟩) | q
      · exact ⟨"list", false, false, .base (.lst q), kit_ty (by decide +kernel), kit_ty (by decide +kernel), rfl⟩
      · exact ⟨"list", false, false, .base (.frz q), kit_ty (by decide +kernel), kit_ty (by decide +kernel), rfl⟩
      · obtain ⟨o, xs, n, e, c, _⟩ := q
        exact ⟨"list", false, false, .kList e c, kit_ty (by decide +kernel), kit_ty (by decide +kernel), rfl⟩
/-- a list or a tuple -/
def SqA (K : PySem.W.Frag) (H : Hp) (a : Addr) (xs : List V) : Prop := SqL K H a xs ∨ SqT K H a xs
theorem SqA.keep {K : PySem.W.Frag} {H H' : Hp} {a : Addr} {xs : List V} (e : Same H H') (h : SqA K H a xs) : SqA K H' a xs := h.imp (sqL_keep e) (sameT e)
end Wm

/-! Texts of digits: halves, groups, the number they tell. -/
namespace Wm
open PySem L2 TL
def oneS (g : Nat) : Str := ⟨(List.replicate g 49).toArray⟩
def bitS (z : Int) : Str := if z = 1 then "1" else "0"
def decS (g : Nat) : Str := ((toString (g : Int) : String) : Str)
theorem bit_str {z : Int} (h : z = 0 ∨ z = 1) : ((toString z : String) : Str) = bitS z := by
  rcases h with e | e <;> subst e <;> decide +kernel
theorem tl_bit (z : Int) : tl (bitS z) = [if z = 1 then 49 else 48] := by
  unfold bitS
  by_cases c : z = 1
  · rw [if_pos c, if_pos c]; decide +kernel
  · rw [if_neg c, if_neg c]; decide +kernel
theorem joinL_nil : ∀ ps : List (List Nat), joinL [] ps = ps.flatten
  | [] => rfl
  | [p] => by show p = [p].flatten; simp
  | p :: q :: r => by
    show p ++ ([] ++ joinL [] (q :: r)) = _
    rw [joinL_nil (q :: r), List.nil_append]
    rfl
theorem tl_empty : tl ("" : Str) = [] := by decide +kernel
theorem tl_zero : tl ("0" : Str) = [48] := by decide +kernel
theorem tl_join0 (ys : List Str) : tl (Txt.join "" ys) = (ys.map tl).flatten := by
  rw [join_eq, tl_join, tl_empty, joinL_nil]
theorem bits_flat : ∀ zs : List Int, ((zs.map bitS).map tl).flatten = bits zs
  | [] => rfl
  | z :: zs => by
    rw [List.map_cons, List.map_cons, List.flatten_cons, bits_flat zs, tl_bit]
    rfl
theorem halves_eq (zs : List Int) : Txt.join "" (zs.map bitS) = Txt.join "0" ((gaps zs).map oneS) := by
  refine ext_tl ?_
  rw [tl_join0, bits_flat, gaps_join, join_eq, tl_join, tl_zero, List.map_map]
  rfl
theorem groups_eq (zs : List Int) : Txt.split (Txt.join "" (zs.map bitS)) "0" = (gaps zs).map oneS := by
  rw [halves_eq]
  refine split_join (s := 48) (S := []) tl_zero (by decide +kernel) (map_ne (gaps_ne zs)) fun p hp h => ?_
  obtain ⟨g, _, rfl⟩ := List.mem_map.mp hp
  have h : 48 ∈ List.replicate g 49 := h
  exact absurd (List.mem_replicate.mp h).2 (by decide)
theorem oneS_len (g : Nat) : (oneS g).length = g := by
  rw [len_tl]
  show (List.replicate g 49).length = g
  rw [List.length_replicate]
theorem halves_len (zs : List Int) : (Txt.join "" (zs.map bitS)).length = zs.length := by
  rw [len_tl, tl_join0, bits_flat]
  unfold bits
  rw [List.length_map]
theorem len4 : ∀ g : Fin 1001, (decS g.val).length ≤ 4 := by decide +kernel
theorem dec_len {g : Nat} (h : g ≤ 1000) : (decS g).length ≤ 4 := len4 ⟨g, by omega⟩
theorem dec_sum : ∀ {gs : List Nat}, (∀ g ∈ gs, g ≤ 1000) → ((gs.map decS).map (·.length)).sum ≤ 4 * gs.length
  | [], _ => by simp
  | g :: gs, h => by
    have h1 := dec_len (h g (by simp))
    have h2 := dec_sum (gs := gs) fun y m => h y (List.mem_cons_of_mem _ m)
    rw [List.map_cons, List.map_cons, List.sum_cons, List.length_cons]
    omega
theorem join0_len (ys : List Str) : (Txt.join "" ys).length = (ys.map (·.length)).sum := by
  rw [len_tl, tl_join0]
  induction ys with
  | nil => rfl
  | cons y ys ih => rw [List.map_cons, List.flatten_cons, List.length_append, ih, List.map_cons, List.sum_cons, len_tl]
theorem bit_sum (zs : List Int) : ((zs.map bitS).map (·.length)).sum = zs.length := by rw [← join0_len, halves_len]
theorem num_text : ∀ {ds : List Nat}, (∀ d ∈ ds, 1 ≤ d ∧ d ≤ 9) → Txt.join "" (ds.map decS) = numS ds
  | [], _ => by decide +kernel
  | d :: ds, h => by
    have ih := num_text (ds := ds) fun y m => h y (List.mem_cons_of_mem _ m)
    refine ext_tl ?_
    rw [tl_join0, List.map_cons, List.map_cons, List.flatten_cons, ← tl_join0, ih]
    have e : decS d = numS [d] := dig_str (h d (by simp))
    rw [e]
    rfl
/-- the number that a row of bits tells, if it is a row -/
def told (zs : List Int) : Str := Txt.join "" ((gaps (Hf.ev2 zs)).dropLast.dropLast.map decS)
theorem told_row {ds : List Nat} (h : ∀ d ∈ ds, 1 ≤ d ∧ d ≤ 9) : told (rowL ds) = numS ds := by
  unfold told
  rw [gaps_row, ← num_text h]
  congr 2
  show (ds ++ [0, 0]).dropLast.dropLast = ds
  rw [show (ds ++ [0, 0]) = (ds ++ [0]) ++ [0] by simp, List.dropLast_concat, List.dropLast_concat]
theorem digits_codes : ("123456789" : Str).cps.toList = [49, 50, 51, 52, 53, 54, 55, 56, 57] := by decide +kernel
theorem dig_text (t : Str) (h : ∀ c ∈ tl t, c ∈ ("123456789" : Str).cps.toList) : ∃ ds : List Nat, (∀ d ∈ ds, 1 ≤ d ∧ d ≤ 9) ∧ t = numS ds := by
  have h2 : ∀ c ∈ tl t, 49 ≤ c ∧ c ≤ 57 := fun c m => by
    have q := h c m
    rw [digits_codes] at q
    simp only [List.mem_cons, List.not_mem_nil, or_false] at q
    omega
  refine ⟨(tl t).map (· - 48), fun d m => ?_, ?_⟩
  · obtain ⟨c, mc, rfl⟩ := List.mem_map.mp m
    have := h2 c mc
    omega
  · refine ext_tl ?_
    show tl t = ((tl t).map (· - 48)).map (· + 48)
    rw [List.map_map]
    refine (List.map_id _).symm.trans (List.map_congr_left fun c m => ?_)
    have := h2 c m
    show c = c - 48 + 48
    omega
theorem num_codes {ds : List Nat} (h : ∀ d ∈ ds, 1 ≤ d ∧ d ≤ 9) : ∀ c ∈ tl (numS ds), c ∈ ("123456789" : Str).cps.toList := fun c m => by
  have m : c ∈ codes ds := m
  obtain ⟨d, md, rfl⟩ := List.mem_map.mp m
  exact dig_in (h d md)
def IsNum (t : Str) : Prop := ∃ ds, Num ds ∧ t = numS ds
theorem isnum_dig {ds : List Nat} : IsNum (numS ds) ↔ Num ds :=
  ⟨fun ⟨es, N, e⟩ => by rw [numS_inj e]; exact N, fun N => ⟨ds, N, rfl⟩⟩
theorem row_inj {ds es : List Nat} (N : Num ds) (M : Num es) (h : (rowL ds).map V.int = (rowL es).map V.int) : ds = es := by
  have e : rowL ds = rowL es := by
    have q := congrArg (List.map fun v => match v with | V.int i => i | _ => 0) h
    simpa [List.map_map, Function.comp_def] using q
  exact ones_inj (fun d m => (N.dig d m).1) (fun d m => (M.dig d m).1) (by rw [e])
theorem map_int_inj {xs ys : List Int} (h : xs.map V.int = ys.map V.int) : xs = ys := by
  have q := congrArg (List.map fun v => match v with | V.int i => i | _ => 0) h
  simpa [List.map_map, Function.comp_def] using q
/-- what number_of tells of a row -/
def Told (xs : List V) (v : V) : Prop := (∃ ds, Num ds ∧ xs = (rowL ds).map V.int ∧ v = .str (numS ds)) ∨ ((∀ ds, Num ds → xs ≠ (rowL ds).map V.int) ∧ v = .non)
theorem Told.uniq {xs : List V} {v u : V} (a : Told xs v) (b : Told xs u) : v = u := by
  rcases a with ⟨ds, N, e, rfl⟩ | ⟨n, rfl⟩
  · rcases b with ⟨es, M, f, rfl⟩ | ⟨n, _⟩
    · rw [row_inj N M (e.symm.trans f)]
    · exact absurd e (n ds N)
  · rcases b with ⟨es, M, f, rfl⟩ | ⟨_, rfl⟩
    · exact absurd f (n es M)
    · rfl
theorem Told.row {ds : List Nat} {v : V} (N : Num ds) (a : Told ((rowL ds).map V.int) v) : v = .str (numS ds) := a.uniq (.inl ⟨ds, N, rfl, rfl⟩)
end Wm

/-! enumerate of a tuple, as a thing that a for walks. -/
namespace Es
open PySem PySem.Spec PyProof.Rows L2
theorem meets_ent (t : Addr) (its : Array Value) (m : Nat) (dd : Option Addr) (slo : Array (Option Value)) :
    Meets (Builtin.«enumerate.__new__» ⟨[.type "enumerate", .ref t], []⟩) (fun _ R s => s.heap.get? t = some { cls := .type "tuple", dict := dd, data := .seq its m, slots := slo } ∧
      R (.ok (.ret (.ref (s.heap.push { cls := .type "tuple_iterator", data := .fields #[.ref t, .int 0 0] }).objs.size))) { s with heap := (s.heap.push { cls := .type "tuple_iterator", data := .fields #[.ref t, .int 0 0] }).push { cls := .type "enumerate", data := .fields #[.none, .bool false, .ref s.heap.objs.size, rawInt 0, .none, .none] } }) :=
  .of_wp fun prog w A R s h => by
    obtain ⟨hp, gn, dr, tk, os⟩ := s
    obtain ⟨ht, h⟩ := h
    have hsub := sub_enumerate
    have hT : Heap.IsTuple (Shared.heap ⟨hp, gn, dr, tk, os⟩) t its := ⟨_, ht, rfl, m, rfl⟩
    wp_walk using AutoSeq1.wpAny_loadPart' ht
    refine wpAny_stack_any fun st => wpAny_pure ?_
    split
    · rename_i c _ _ _ _ _
      cases (c == Value.type "enumerate")
      · wp_walk using AutoSeq1.wpAny_loadPart' ht, wpAny_pyIter_tuple hT
        exact ⟨_, rfl, h⟩
      · wp_walk using AutoSeq1.wpAny_loadPart' ht, wpAny_pyIter_tuple hT
        exact ⟨_, rfl, h⟩
    · wp_walk using AutoSeq1.wpAny_loadPart' ht, wpAny_pyIter_tuple hT
      exact ⟨_, rfl, h⟩
section
variable {prog : Program} {w : World} {A : Around} {E : Value → Shared → Prop} {s : Shared}
theorem call_ent {t : Addr} {its : Array Value} {Q : Value → Shared → Prop} (ht : s.heap.IsTuple t its)
    (q : ∀ g, IsEnum g (s.heap.objs.size + 1) s.heap.objs.size 0 .none → g.IsTupleIter s.heap.objs.size t 0 → (∀ b o, s.heap.get? b = some o → g.get? b = some o) → Q (.ref (s.heap.objs.size + 1)) { s with heap := g }) :
    wpAny (model prog w) A (call (.type "enumerate") [.ref t]) Q E s := by
  obtain ⟨⟨tc, td, tdat, tsl⟩, h0, h1, m, h2⟩ := ht
  simp only at h1 h2
  subst h1 h2
  refine callType_new F.called_enumerate (by decide) (F.typeCall_enumerate_1 _) (F.newCall_enumerate_1 _) (fun ob => F.args_object_init_2 ob _) F.entry_enumerate_new (meets_ent t its m td tsl) ⟨h0, ?_⟩
  have hz : (s.heap.push { cls := .type "tuple_iterator", data := .fields #[.ref t, .int 0 0] }).objs.size = s.heap.objs.size + 1 := Heap.size_push ..
  have er : IsEnum ((s.heap.push { cls := .type "tuple_iterator", data := .fields #[.ref t, .int 0 0] }).push { cls := .type "enumerate", data := .fields #[.none, .bool false, .ref s.heap.objs.size, rawInt 0, .none, .none] }) (s.heap.objs.size + 1) s.heap.objs.size 0 .none := by
    rw [← hz]
    exact Heap.get?_push_size _ rfl
  show _ ∧ _
  rw [hz]
  exact ⟨⟨_, er, rfl⟩, q _ er ⟨_, Heap.get?_push_of_some _ (Heap.get?_push_size _ rfl), rfl, rfl⟩ fun b o x => Heap.get?_push_of_some _ (Heap.get?_push_of_some _ x)⟩
theorem tup_end {e it t : Addr} {i : Nat} {its : Array Value} {old : Value} {k : Int} {Q : Option Value → Shared → Prop} (hh : A.handled = none) (er : IsEnum s.heap e it k old) (ti : s.heap.IsTupleIter it t i) (ht : s.heap.IsTuple t its) (hx : its[i]? = none)
    (q : ∀ g, Heap.ExtBut it s.heap g → Q none { s with heap := g }) : wpAny (model prog w) A (pyNext (.ref e)) Q E s := by
  have te : s.TypeIs (.ref e) "enumerate" := ⟨_, er, rfl⟩
  unfold pyNext
  refine wpAny_bind (wpAny_attempt (wpAny_callSpecial?_slot (name := Str.ofString "__next__") te F.slot_enumerate_next (wpAny_call_entry F.slot_enumerate_next te F.entry_enumerate_next ?_ (F.args_enumerate_next_1 _))))
  show wpAny _ _ (field (.ref e) 2 >>= _) _ _ _
  refine wpAny_bind (wpAny_field er rfl (x := .ref it) rfl ?_)
  refine wpAny_bind (wpAny_nextOf_tuple_end (show A.in1.handled = none from hh) ti ht hx fun g x k1 ⟨o, k2, k3⟩ => ?_)
  refine wpAny_bind (wpAny_isInstance (T := "StopIteration") (b := true) ⟨o, k2, k3⟩ isSubtype_stop ?_)
  exact wpAny_pure (q _ k1)
end
def Iten (K : PySem.W.Frag) (a : Addr) : It :=
  ⟨fun i H => ∃ (xs : List V) (x : V), SqT K H a xs ∧ xs[i]? = some x, fun i H v H' => ∃ T x, v = .ref T ∧ H T = none ∧ H' = upd H T (.tup [.int (i : Nat), x]) ∧ ∀ xs, SqT K H a xs → xs[i]? = some x, fun i H => ∃ xs : List V, SqT K H a xs ∧ xs.length ≤ i⟩
theorem turn_ent {P : Program} {w : World} {K : PySem.W.Frag} {elts : List Expr} {kk : Nat} {tpos : Pos} (a e it : Addr) (nei : e ≠ it) (nea : e ≠ a) (nai : a ≠ it) :
    Turn P w K (.Tuple elts kk tpos) (Iten K a) [e, it] e (fun i h => (∃ old, IsEnum h e it ((i : Nat) : Int) old) ∧ h.IsTupleIter it a i) where
  mem := by simp
  obj := fun i h st b hb => by
    obtain ⟨⟨old, er⟩, o, ho, _, hd⟩ := st
    have hb' : b = e ∨ b = it := by simpa using hb
    rcases hb' with z | z
    · rw [z]
      exact ⟨_, er, fun v q => nomatch q⟩
    · rw [z]
      exact ⟨o, ho, fun v q => by rw [hd] at q; cases q⟩
  keep := fun i h g st k => by
    obtain ⟨⟨old, er⟩, ti⟩ := st
    exact ⟨⟨old, k e (by simp) _ er⟩, ti.at fun o q => k it (by simp) o q⟩
  item := by
    intro X hP hw hK hc i pins s σ H E I hf st hg
    subst hP hw hK
    obtain ⟨⟨old, er⟩, ti⟩ := st
    obtain ⟨xs, x, hq, hx⟩ := hg
    obtain ⟨its, rv, p, _⟩ := I.tuple hq
    obtain ⟨u, hu, ru⟩ := rv.get hx
    have el : e < s.heap.objs.size := Heap.lt_size er
    have il : it < s.heap.objs.size := by
      obtain ⟨_, q, _⟩ := id ti
      exact Heap.lt_size q
    have hlt : i < its.toArray.size := by
      have q := (List.getElem?_eq_some_iff.mp hu).1
      simpa using q
    have hd : X.A.in1.handled = none := I.ok.hd hc
    refine wpAny_pyNext_enum_itemD (Draws.tuple hd it a nai its.toArray) er ⟨ti, p⟩ hlt nei (by simp [nei, nea]) fun y g tk hy eo st2 hT hsz hk => ?_
    have ey : y = u := by
      rw [show its.toArray[i]? = some u by simpa using hu] at hy
      exact (Option.some.inj hy).symm
    subst ey
    refine ⟨_, rfl, wpAny_letOwnedTupleGo_enum (s := { s with heap := g, toks := tk + 1 }) eo fun g2 er2 sb => ?_⟩
    have hT2 : g2.get? s.heap.objs.size = some { cls := .type "tuple", data := .seq #[.int i tk, y] } := (sb.2 _ (Nat.ne_of_gt el)).trans hT
    have new : ObjOk X.prog X.w (upd H s.heap.objs.size (.tup [.int (i : Nat), x])) g2 s.heap.objs.size (.tup [.int (i : Nat), x]) := ⟨by show 2 ≤ sizeLine; decide, [.int i tk, y], .cons ⟨_, rfl⟩ (.cons ru .nil), ⟨_, hT2, rfl, _, rfl⟩⟩
    have I1 : Inv X pins σ (upd H s.heap.objs.size (.tup [.int (i : Nat), x])) { s with heap := g2, toks := tk + 1 } := I.turnedNew (ch := [e, it]) (fun b ob hb q => (sb.2 b (fun z => hb (by simp [z]))).trans (hk b ob (fun z => hb (by simp [z])) (fun z => hb (by simp [z])) q)) hf (Nat.le_refl _) new
    refine ⟨.ref s.heap.objs.size, _, I1, rfl, ⟨_, x, rfl, I.hok.fresh (Nat.le_refl _), rfl, fun ys hy => by rw [I.tuple_inj hy hq]; exact hx⟩, ⟨⟨y, ?_⟩, st2.1.at fun o q => (sb.2 it nei.symm).trans q⟩, fun b hb => ?_⟩
    · rw [show ((i + 1 : Nat) : Int) = (i : Int) + 1 by omega]
      exact er2
    · have lb : b < s.heap.objs.size := by
        have hb' : b = e ∨ b = it := by simpa using hb
        rcases hb' with z | z
        · rw [z]; exact el
        · rw [z]; exact il
      rw [upd_ne (Nat.ne_of_lt lb)]
      exact (hf b hb).1
  done := by
    intro X hP hw hK hc i pins s σ H E I hf st hg
    subst hP hw hK
    obtain ⟨⟨old, er⟩, ti⟩ := st
    obtain ⟨xs, hq, hx⟩ := hg
    obtain ⟨its, rv, p, _⟩ := I.tuple hq
    have hl := rv.length
    exact tup_end (I.ok.hd hc) er ti p (by simp; omega) fun g kg => ⟨rfl, I.turnedL (t' := s.toks) (ch := [e, it]) (fun b o hb q => kg b o (fun z => hb (by simp [z])) q) hf⟩
  self := fun A i s Q E st h => let ⟨⟨_, er⟩, _⟩ := st; wpAny_pyIter_enum er h
def iEnt (K : PySem.W.Frag) (ta : TA) : TI := fun σ H R => ta σ H fun vs H1 => ∃ a xs, vs = [.ref a] ∧ SqT K H1 a xs ∧ R (Iten K a) H1
theorem pi_ent {X : Cx} {e : Expr} {ta : TA} {p pos tpos : Pos} {elts : List Expr} {kk : Nat} (hg : Gl X "enumerate") (hm : X.mg "enumerate" = none) (ha : PA X [e] ta) (hs : starEach [e] X.env = [(false, eval e X.env)] := by rfl) :
    PI X (.Tuple elts kk tpos) (.Call (.Name "enumerate" p) [e] [] pos) (iEnt X.K ta) := by
  refine ⟨fun pins s σ H R I h => ?_⟩
  refine Call_ (ld_blt I hg hm boot_enumerate (PyProof.Rows.callWith_type1 (thn (ha.run pos pins s σ H _ I h) fun us s1 ⟨vs, H1, I1, r1, q1⟩ => ?_) hs rfl))
  obtain ⟨a, xs, ev, hq, q⟩ := q1
  subst ev
  cases r1 with
  | cons r rr =>
    cases rr
    cases r
    obtain ⟨its, rv, pt, _⟩ := I1.tuple hq
    obtain ⟨ot, hot, _⟩ := id pt
    have al : a < s1.heap.objs.size := Heap.lt_size hot
    refine call_ent (show s1.heap.IsTuple a its.toArray from pt) fun g er ti kg => wpAny_pyIter_enum er ?_
    have I2 : Inv X pins σ H1 { s1 with heap := g } := I1.kept (t' := s1.toks) kg
    refine ⟨s1.heap.objs.size + 1, [s1.heap.objs.size + 1, s1.heap.objs.size], _, _, H1, rfl, I2, turn_ent a (s1.heap.objs.size + 1) s1.heap.objs.size (Nat.succ_ne_self _) (Nat.ne_of_gt (Nat.lt_succ_of_lt al)) (Nat.ne_of_lt al), ⟨⟨.none, er⟩, ti⟩, fun b hb => ?_, q⟩
    have hb' : b = s1.heap.objs.size + 1 ∨ b = s1.heap.objs.size := by simpa using hb
    have le : s1.heap.objs.size ≤ b := by
      rcases hb' with z | z
      · rw [z]; exact Nat.le_add_right _ _
      · rw [z]; exact Nat.le_refl _
    exact I1.fpOk le (I1.hok.fresh le)
theorem walk_ent {K : PySem.W.Frag} {a : Addr} {xs : List V} : Walk (Iten K a) xs.length (fun H => SqT K H a xs) (YPair (fun i => some (.int (i : Nat))) (fun i => xs[i]?)) := by
  refine ⟨fun i _ hi q => ⟨xs, xs[i], q, by simp [hi]⟩, fun _ q => ⟨xs, q, Nat.le_refl _⟩, fun i H v H' _ q y => ?_⟩
  obtain ⟨T, x, y1, y2, y3, y4⟩ := y
  exact ⟨T, .int (i : Nat), x, y1, y2, y3, rfl, y4 xs q⟩
end Es

/-! xs.extend(t), t a tuple; comprehensions of two clauses by walks. -/
namespace Et
open PySem PySem.Spec PyProof.Rows L2
theorem ext_meets (l : Addr) (us : Array Value) (n : Nat) (b : Addr) (vs : Array Value) (m : Nat) (dd : Option Addr) (sl : Array (Option Value)) (h0 : ¬(!us.isEmpty && Builtin.List.listTooLong (us.size + vs.size)) = true) (h1 : us.size ≤ sizeLine) (h2 : us.size + vs.size ≤ sizeLine + 1) :
    Meets (Builtin.«list.extend» ⟨[.ref l, .ref b], []⟩) (fun _ R s => s.heap.get? l = some { cls := .type "list", dict := none, data := .seq us n, slots := #[] } ∧ s.heap.get? b = some { cls := .type "tuple", dict := dd, data := .seq vs m, slots := sl } ∧ R (.ok (.ret Value.none)) { s with heap := s.heap.update l (Obj.mapSeq fun x => x ++ vs), toks := s.toks }) :=
  .of_wp fun prog w A R s h => by
    obtain ⟨hp, g, d, tk, os⟩ := s
    obtain ⟨hl, hb, h⟩ := h
    have f1 := AutoSeq1.idx_int
    have f2 := AutoSeq1.sub_tuple_tuple
    have f3 := AutoSeq1.sub_list_list
    have f4 := AutoSeq1.sub_tuple_list
    have f5 := AutoSeq1.sub_list_tuple
    have hz' : (us ++ vs).size ≤ sizeLine + 1 := by
      rw [Array.size_append]
      exact h2
    wp_walk using (wpAny_updateSeq hl rfl (hz := h1) (_hz' := hz')), AutoSeq1.wpAny_loadPart' hl, AutoSeq1.wpAny_loadPart' hb
    exact ⟨_, rfl, h⟩
section
variable {X : Cx}
def rExtT (K : PySem.W.Frag) : V → List V → Hp → VK → Prop := fun x vs H Q => ∃ l b xs zs, x = .ref l ∧ vs = [.ref b] ∧ H l = some (.lst xs) ∧ SqT K H b zs ∧ xs.length + zs.length ≤ sizeLine ∧ Q .non (upd H l (.lst (xs ++ zs)))
theorem mt_extT : MtM X "list.extend" (rExtT X.K) := by
  intro pins s σ H x vs v us Q I rx rv h
  obtain ⟨l, b, xs, zs, rfl, rfl, hH, hB, hz, q⟩ := h
  cases rx
  obtain ⟨u, rfl, ru⟩ := rv.one
  cases ru
  obtain ⟨z, its, n, r, hl, e⟩ := I.lstM hH
  obtain ⟨its2, r2, p2, _⟩ := I.tuple hB
  obtain ⟨⟨c2, d2, a2, s2⟩, e2, k1, m, k2⟩ := p2
  simp only at k1 k2
  subst k1 k2
  have hl2 := r2.length
  have hsz : its.toArray.size + its2.toArray.size ≤ sizeLine := by
    rw [List.size_toArray, List.size_toArray]
    omega
  have hlong : ¬ (!its.toArray.isEmpty && Builtin.List.listTooLong (its.toArray.size + its2.toArray.size)) = true := by
    rw [notLongL hsz, Bool.and_false]
    exact Bool.false_ne_true
  refine call_meets F.slot_list_extend ⟨_, e, rfl⟩ F.entry_list_extend (F.args_list_extend_2 _ _) (ext_meets l its.toArray n b its2.toArray m d2 s2 hlong (by rw [List.size_toArray]; omega) (by omega)) ⟨e, e2, ?_⟩
  refine ⟨.non, _, I.lset (its' := its ++ its2) hH e (by simp) (r.append r2) ?_, rfl, q⟩
  rw [List.length_append]
  omega
end
/-- the outer clause of a comprehension of two -/
theorem out_it {J : It} {n : Nat} {G : Hp → Prop} {Y : Nat → Hp → V → Hp → Prop} (w : Walk J n G Y) {g : TG} {tt : TT} {B : (Hp → Prop) → L2.St → Hp → Prop} {vs : List Nat} {σ : L2.St} {H1 : Hp} {D : Addr} {Qd : Hp → Prop} (Pv : Nat → Hp → Prop) (h0 : Pv 0 (upd H1 D (.lst []))) (hG : ∀ i H, i ≤ n → Pv i H → G H)
    (hs : ∀ i x H H', i < n → Pv i H → Y i H x H' → g x (wipe σ vs) H' fun σ2 H2 => wipe σ2 vs = wipe σ vs ∧ tt σ2 H2 fun b H3 => if b = true then B (Pv (i + 1)) σ2 H3 else Pv (i + 1) H3) (hd : ∀ H, Pv n H → Qd H) :
    ∃ W : Nat → Nat → Hp → Prop, (∃ m, W 0 m (upd H1 D (.lst []))) ∧ ∀ i m H, W i m H →
      (J.stop i H ∧ Qd H) ∨ (J.go i H ∧ ∃ Nx : Hp → Prop, (∀ H', Nx H' → ∃ m', m' < m ∧ W (i + 1) m' H') ∧ ∀ x H', J.yld i H x H' → g x (wipe σ vs) H' fun σ2 H2 => wipe σ2 vs = wipe σ vs ∧ tt σ2 H2 fun b H3 => if b = true then B Nx σ2 H3 else Nx H3) := by
  refine ⟨fun i m H => m = n - i ∧ i ≤ n ∧ Pv i H, ⟨n, by simp, Nat.zero_le _, h0⟩, ?_⟩
  rintro i m H ⟨rfl, hi, p⟩
  have q := hG i H hi p
  by_cases lt : i < n
  · exact .inr ⟨w.goes i H lt q, Pv (i + 1), fun H' p' => ⟨n - (i + 1), by omega, rfl, lt, p'⟩, fun x H' y => hs i x H H' lt p (w.yields i H x H' lt q y)⟩
  · have e : i = n := by omega
    subst e
    exact .inl ⟨w.stops H q, hd H p⟩
/-- the inner clause -/
theorem in_it {J : It} {n : Nat} {G : Hp → Prop} {Y : Nat → Hp → V → Hp → Prop} (w : Walk J n G Y) {g : TG} {tt : TT} {te : TE} {vs : List Nat} {σ : L2.St} {H1 : Hp} {D : Addr} {Qd : Hp → Prop} (Pv : Nat → Hp → Prop) (h0 : Pv 0 H1) (hG : ∀ i H, i ≤ n → Pv i H → G H)
    (hs : ∀ i x H H', i < n → Pv i H → Y i H x H' → g x (wipe σ vs) H' fun σ2 H2 => wipe σ2 vs = wipe σ vs ∧ tt σ2 H2 fun b H3 =>
      if b = true then te σ2 H3 fun y H4 => ∃ acc, H4 D = some (.lst acc) ∧ acc.length < sizeLine ∧ Pv (i + 1) (upd H4 D (.lst (acc ++ [y]))) else Pv (i + 1) H3) (hd : ∀ H, Pv n H → Qd H) :
    ∃ W : Nat → Nat → Hp → Prop, (∃ m, W 0 m H1) ∧ ∀ i m H, W i m H →
      (J.stop i H ∧ Qd H) ∨ (J.go i H ∧ ∃ Nx : Hp → Prop, (∀ H', Nx H' → ∃ m', m' < m ∧ W (i + 1) m' H') ∧ ∀ x H', J.yld i H x H' → g x (wipe σ vs) H' fun σ2 H2 => wipe σ2 vs = wipe σ vs ∧ tt σ2 H2 fun b H3 =>
        if b = true then te σ2 H3 fun y H4 => ∃ acc, H4 D = some (.lst acc) ∧ acc.length < sizeLine ∧ Nx (upd H4 D (.lst (acc ++ [y]))) else Nx H3) := by
  refine ⟨fun i m H => m = n - i ∧ i ≤ n ∧ Pv i H, ⟨n, by simp, Nat.zero_le _, h0⟩, ?_⟩
  rintro i m H ⟨rfl, hi, p⟩
  have q := hG i H hi p
  by_cases lt : i < n
  · refine .inr ⟨w.goes i H lt q, Pv (i + 1), fun H' p' => ⟨n - (i + 1), by omega, rfl, lt, p'⟩, fun x H' y => hs i x H H' lt p (w.yields i H x H' lt q y)⟩
  · have e : i = n := by omega
    subst e
    exact .inl ⟨w.stops H q, hd H p⟩
end Et

/-! Data of ints, texts and tuples of such; what keeps them. -/
namespace Dv
open PySem L2 Wm
mutual
inductive Dt (K : PySem.W.Frag) (H : Hp) : V → PyData → Prop
  | int (i : Int) : Dt K H (.int i) (.int i)
  | str (x : Str) : Dt K H (.str x) (.str x)
  | tup {a : Addr} {xs : List V} {ds : List PyData} : SqT K H a xs → Dts K H xs ds → Dt K H (.ref a) (.tuple ds)
inductive Dts (K : PySem.W.Frag) (H : Hp) : List V → List PyData → Prop
  | nil : Dts K H [] []
  | cons {v : V} {vs : List V} {d : PyData} {ds : List PyData} : Dt K H v d → Dts K H vs ds → Dts K H (v :: vs) (d :: ds)
end
/-- tuples stand -/
def Kt (K : PySem.W.Frag) (H H' : Hp) : Prop := ∀ a xs, SqT K H a xs → SqT K H' a xs
section
variable {K : PySem.W.Frag} {H H' H2 : Hp}
theorem Kt.refl : Kt K H H := fun _ _ h => h
theorem Kt.trans (a : Kt K H H') (b : Kt K H' H2) : Kt K H H2 := fun p xs h => b p xs (a p xs h)
theorem Kt.same (s : Same H H') : Kt K H H' := fun _ _ h => sameT s h
/-- a store at what is no tuple -/
theorem Kt.set {p : Addr} {o u : HO} (h : H p = some u) (n1 : ∀ xs, u ≠ .tup xs) (n2 : ∀ ob xs, u ≠ .frz ob (.tup xs)) : Kt K H (upd H p o) := fun a xs q => by
  rcases q with (q | ⟨ob, q⟩) | q
  · exact .inl (.inl (by rw [upd_ne (fun e => by subst e; rw [h] at q; exact n1 _ (Option.some.inj q))]; exact q))
  · exact .inl (.inr ⟨ob, by rw [upd_ne (fun e => by subst e; rw [h] at q; exact n2 _ _ (Option.some.inj q))]; exact q⟩)
  · exact .inr q
theorem Kt.lst {p : Addr} {o : HO} {xs : List V} (h : H p = some (.lst xs)) : Kt K H (upd H p o) := Kt.set h (fun _ q => by cases q) (fun _ _ q => by cases q)
theorem Kt.new {p : Addr} {o : HO} (h : H p = none) : Kt K H (upd H p o) := Kt.same (same_new h)
mutual
theorem Dt.keep (k : Kt K H H') : ∀ (d : PyData) (v : V), Dt K H v d → Dt K H' v d
  | .int _, _, h => by cases h; exact .int _
  | .str _, _, h => by cases h; exact .str _
  | .tuple ds, _, h => by
    cases h with
    | tup a b => exact .tup (k _ _ a) (Dts.keep k ds _ b)
  | .none, _, h => by cases h
  | .bool _, _, h => by cases h
  | .list _, _, h => by cases h
  | .dict _, _, h => by cases h
theorem Dts.keep (k : Kt K H H') : ∀ (ds : List PyData) (vs : List V), Dts K H vs ds → Dts K H' vs ds
  | [], _, h => by cases h; exact .nil
  | d :: ds, _, h => by
    cases h with
    | cons a b => exact .cons (Dt.keep k d _ a) (Dts.keep k ds _ b)
end
mutual
theorem Dt.dp : ∀ (d : PyData) (v : V), Dt K H v d → Dp K H v d
  | .int _, _, h => by cases h; exact .int _
  | .str _, _, h => by cases h; exact .str _
  | .tuple ds, _, h => by
    cases h with
    | tup a b => exact .tup a (Dts.dp ds _ b)
  | .none, _, h => by cases h
  | .bool _, _, h => by cases h
  | .list _, _, h => by cases h
  | .dict _, _, h => by cases h
theorem Dts.dp : ∀ (ds : List PyData) (vs : List V), Dts K H vs ds → DpAll K H vs ds
  | [], _, h => by cases h; exact .nil
  | d :: ds, _, h => by
    cases h with
    | cons a b => exact .cons (Dt.dp d _ a) (Dts.dp ds _ b)
end
theorem Dt.k {d : PyData} {v : V} (h : Dt K H v d) (k : Kt K H H') : Dt K H' v d := Dt.keep k _ _ h
theorem Dts.k {ds : List PyData} {vs : List V} (h : Dts K H vs ds) (k : Kt K H H') : Dts K H' vs ds := Dts.keep k _ _ h
theorem Dt.toDp {d : PyData} {v : V} (h : Dt K H v d) : Dp K H v d := Dt.dp _ _ h
theorem Dts.toDp {ds : List PyData} {vs : List V} (h : Dts K H vs ds) : DpAll K H vs ds := Dts.dp _ _ h
theorem Dt.inv {ds : List PyData} {v : V} (h : Dt K H v (.tuple ds)) : ∃ p xs, v = .ref p ∧ SqT K H p xs ∧ Dts K H xs ds := by
  cases h with
  | tup a b => exact ⟨_, _, rfl, a, b⟩
theorem Dt.str_inv {x : Str} {v : V} (h : Dt K H v (.str x)) : v = .str x := by cases h; rfl
theorem Dt.int_inv {i : Int} {v : V} (h : Dt K H v (.int i)) : v = .int i := by cases h; rfl
theorem Dts.len {ds : List PyData} {vs : List V} (h : Dts K H vs ds) : vs.length = ds.length := by
  induction ds generalizing vs with
  | nil => cases h; rfl
  | cons d ds ih =>
    cases h with
    | cons a b => rw [List.length_cons, List.length_cons, ih b]
theorem Dts.at {i : Nat} {ds : List PyData} {vs : List V} {v : V} (h : Dts K H vs ds) (g : vs[i]? = some v) : ∃ d, ds[i]? = some d ∧ Dt K H v d := by
  induction ds generalizing vs i with
  | nil =>
    cases h
    simp at g
  | cons d ds ih =>
    cases h with
    | cons a b =>
      cases i with
      | zero =>
        simp at g
        subst g
        exact ⟨d, rfl, a⟩
      | succ i => exact ih b (by simpa using g)
theorem Dts.get {i : Nat} {ds : List PyData} {vs : List V} {d : PyData} (h : Dts K H vs ds) (g : ds[i]? = some d) : ∃ v, vs[i]? = some v ∧ Dt K H v d := by
  have li := (List.getElem?_eq_some_iff.mp g).1
  obtain ⟨v, e⟩ : ∃ v, vs[i]? = some v := ⟨_, List.getElem?_eq_getElem (by rw [h.len]; exact li)⟩
  obtain ⟨d2, e2, a⟩ := h.at e
  rw [g] at e2
  cases e2
  exact ⟨v, e, a⟩
theorem Dts.app {ds es : List PyData} {vs ws : List V} (h : Dts K H vs ds) (g : Dts K H ws es) : Dts K H (vs ++ ws) (ds ++ es) := by
  induction ds generalizing vs with
  | nil => cases h; exact g
  | cons d ds ih =>
    cases h with
    | cons a b => exact .cons a (ih b)
theorem Dts.snoc {ds : List PyData} {d : PyData} {vs : List V} {v : V} (h : Dts K H vs ds) (g : Dt K H v d) : Dts K H (vs ++ [v]) (ds ++ [d]) := h.app (.cons g .nil)
theorem Dts.take {ds : List PyData} {vs : List V} (h : Dts K H vs ds) : ∀ n, Dts K H (vs.take n) (ds.take n) := by
  induction ds generalizing vs with
  | nil => cases h; intro n; simp; exact .nil
  | cons d ds ih =>
    cases h with
    | cons a b =>
      intro n
      cases n with
      | zero => exact .nil
      | succ n => exact .cons a (ih b n)
theorem Dts.drop {ds : List PyData} {vs : List V} (h : Dts K H vs ds) : ∀ n, Dts K H (vs.drop n) (ds.drop n) := by
  induction ds generalizing vs with
  | nil => cases h; intro n; simp; exact .nil
  | cons d ds ih =>
    cases h with
    | cons a b =>
      intro n
      cases n with
      | zero => exact .cons a b
      | succ n => exact ih b n
theorem dts_str : ∀ ss : List Str, Dts K H (ss.map V.str) (ss.map PyData.str)
  | [] => .nil
  | s :: ss => .cons (.str s) (dts_str ss)
theorem dts_str_inv {ss : List Str} {vs : List V} (h : Dts K H vs (ss.map PyData.str)) : vs = ss.map V.str := by
  induction ss generalizing vs with
  | nil => cases h; rfl
  | cons s ss ih =>
    cases h with
    | cons a b => rw [a.str_inv, ih b]; rfl
theorem dts_int : ∀ ns : List Int, Dts K H (ns.map V.int) (ns.map PyData.int)
  | [] => .nil
  | s :: ss => .cons (.int s) (dts_int ss)
theorem dts_int_inv {ns : List Int} {vs : List V} (h : Dts K H vs (ns.map PyData.int)) : vs = ns.map V.int := by
  induction ns generalizing vs with
  | nil => cases h; rfl
  | cons s ss ih =>
    cases h with
    | cons a b => rw [a.int_inv, ih b]; rfl
theorem dt_tup {p : Addr} {xs : List V} {ds : List PyData} (h : H p = some (.tup xs)) (g : Dts K H xs ds) : Dt K H (.ref p) (.tuple ds) := .tup (SqT.of h) g
end
/-- data that == may be asked of: texts in the line, not deep -/
def Fine (n : Nat) (d : PyData) : Prop := d.canLay0 = true ∧ d.depth ≤ n
theorem fine_int {n : Nat} (i : Int) : Fine n (.int i) := ⟨by simp [PyData.canLay0], by simp [PyData.depth]⟩
theorem fine_tup {n : Nat} {ds : List PyData} (h : ∀ d ∈ ds, Fine n d) : Fine (n + 1) (.tuple ds) := by
  have q : PyData.canLayAll0 ds = true ∧ PyData.depthAll ds ≤ n := by
    induction ds with
    | nil => simp [PyData.canLayAll0, PyData.depthAll]
    | cons d ds ih =>
      have h1 := h d (by simp)
      have h2 := ih fun y m => h y (List.mem_cons_of_mem _ m)
      simp only [PyData.canLayAll0, PyData.depthAll, h1.1, h2.1, Bool.and_self, true_and]
      have := h1.2
      have := h2.2
      omega
  exact ⟨by simp only [PyData.canLay0]; exact q.1, by simp only [PyData.depth]; have := q.2; omega⟩
theorem fine_str {n : Nat} {x : Str} (h : x.cps.all (· < 0x110000) = true) : Fine n (.str x) := ⟨by simp only [PyData.canLay0]; exact h, by simp [PyData.depth]⟩
theorem fine_num {n : Nat} {ds : List Nat} (h : ∀ d ∈ ds, d ≤ 9) : Fine n (.str (numS ds)) := by
  refine fine_str ?_
  rw [← Array.all_toList, List.all_eq_true]
  intro c m
  obtain ⟨d, md, rfl⟩ := List.mem_map.mp (show c ∈ codes ds from m)
  have := h d md
  exact decide_eq_true (by omega)
theorem Fine.shaped {n : Nat} {d : PyData} (h : Fine n d) (l : n ≤ 64) : SeqAt.shaped d = true := by
  have e : decide (d.depth ≤ 64) = true := decide_eq_true (Nat.le_trans h.2 l)
  show (d.canLay0 && _) = true
  rw [e, Bool.and_true]
  exact h.1
theorem Fine.refl {n : Nat} {d : PyData} (h : Fine n d) : PyData.eqv d d = true := SeqAt.eqv_refl d h.1
theorem Fine.mono {n m : Nat} {d : PyData} (h : Fine n d) (l : n ≤ m) : Fine m d := ⟨h.1, Nat.le_trans h.2 l⟩
end Dv

/-! A list or a tuple, told by a letter; loops over it that may write elsewhere. -/
namespace Kd
open PySem PySem.Spec PyProof.Rows L2
/-- the list or (t) the tuple at a -/
def Is (K : PySem.W.Frag) (t : Bool) (H : Hp) (a : Addr) (xs : List V) : Prop := if t = true then SqT K H a xs else SqL K H a xs
theorem Is.keep {K : PySem.W.Frag} {t : Bool} {H H' : Hp} {a : Addr} {xs : List V} (s : Same H H') (h : Is K t H a xs) : Is K t H' a xs := by
  cases t
  · exact Hf.keepL s h
  · exact Hf.keepT s h
theorem Is.sq {K : PySem.W.Frag} {t : Bool} {H : Hp} {a : Addr} {xs : List V} (h : Is K t H a xs) : SqL K H a xs ∨ SqT K H a xs := by
  cases t
  · exact .inl h
  · exact .inr h
theorem Is.tup {K : PySem.W.Frag} {H : Hp} {a : Addr} {xs : List V} (h : SqT K H a xs) : Is K true H a xs := h
theorem Is.lst {K : PySem.W.Frag} {H : Hp} {a : Addr} {xs : List V} (h : SqL K H a xs) : Is K false H a xs := h
section
variable {X : Cx}
def iSeq (K : PySem.W.Frag) (tl : TE) : TI := fun σ H R => tl σ H fun x H1 => ∃ a xs t, x = .ref a ∧ Is K t H1 a xs ∧
  ∀ J G, Walk J xs.length G (YAt xs) → (∀ H', Is K t H' a xs → G H') → R J H1
theorem pi_seq {tg l : Expr} {tl : TE} (hl : PE X l tl) : PI X tg l (iSeq X.K tl) := by
  refine ⟨fun pins s σ H R I h => ?_⟩
  refine thn (hl.run pins s σ H _ I h) fun v s1 ⟨x, H1, I1, r1, q1⟩ => ?_
  obtain ⟨a, xs, t, e, hq, q⟩ := q1
  subst e
  cases r1
  cases t with
  | false =>
    have hq : SqL X.K H1 a xs := hq
    have q := q _ _ walk_list fun H' s => s
    obtain ⟨its, rv, p, hz⟩ := I1.list hq
    refine wpAny_pyIter_list p.isList ?_
    refine ⟨s1.heap.objs.size, [s1.heap.objs.size], _, _, H1, rfl, I1.kept (t' := s1.toks) fun b o e => Heap.get?_push_of_some _ e, turn_list a _, ⟨_, Heap.get?_push_size _ rfl, rfl, rfl⟩, fun b hb => ?_, q⟩
    have e : b = s1.heap.objs.size := by simpa using hb
    subst e
    exact I1.fpOk (Nat.le_refl _) (I1.hok.fresh (Nat.le_refl _))
  | true =>
    have hq : SqT X.K H1 a xs := hq
    have q := q _ _ walk_tup fun H' s => s
    obtain ⟨its, rv, p, hz⟩ := I1.tuple hq
    refine wpAny_pyIter_tuple (show s1.heap.IsTuple a its.toArray from p) ?_
    refine ⟨s1.heap.objs.size, [s1.heap.objs.size], _, _, H1, rfl, I1.kept (t' := s1.toks) fun b o e => Heap.get?_push_of_some _ e, turn_tuple a _, ⟨_, Heap.get?_push_size _ rfl, rfl, rfl⟩, fun b hb => ?_, q⟩
    have e : b = s1.heap.objs.size := by simpa using hb
    subst e
    exact I1.fpOk (Nat.le_refl _) (I1.hok.fresh (Nat.le_refl _))
end
end Kd

/-! Comprehensions whose items are told one by one. -/
namespace Lm
open PySem L2 Wm Dv
theorem list_is {α : Type} {ys zs : List α} (l : ys.length = zs.length) (h : ∀ (i : Nat) y, ys[i]? = some y → zs[i]? = some y) : ys = zs := by
  refine List.ext_getElem? fun i => ?_
  by_cases q : i < ys.length
  · rw [h i _ (List.getElem?_eq_getElem q), List.getElem?_eq_getElem q]
  · rw [List.getElem?_eq_none (by omega), List.getElem?_eq_none (by omega)]
theorem lc_map {K : PySem.W.Frag} {J : It} {n : Nat} {G : Hp → Prop} {xs : List V} (w : Walk J n G (YAt xs)) {g : TG} {te : TE} {vs : List Nat} {σ : L2.St} {H1 : Hp} {D : Addr} {Qd : Hp → Prop} (R : Nat → V → Hp → Prop)
    (mono : ∀ i y H H', R i y H → Kt K H H' → R i y H') (hD : H1 D = none) (hn : n ≤ 1000) (hG : ∀ H', Same H1 H' → G H')
    (hs : ∀ i x H', i < n → xs[i]? = some x → Same H1 H' → ∀ (Q : V → Hp → Prop) (Z : Hp → Prop), (∀ y H4, Same H' H4 → R i y H4 → Q y H4) → g x (wipe σ vs) H' fun σ2 H2 => wipe σ2 vs = wipe σ vs ∧ tYes σ2 H2 fun b H3 => if b = true then te σ2 H3 Q else Z H3)
    (hd : ∀ H ys, Same H1 H → H D = some (.lst ys) → ys.length = n → (∀ (i : Nat) y, ys[i]? = some y → R i y H) → Qd H) :
    ∃ W : Nat → Nat → Hp → Prop, (∃ m, W 0 m (upd H1 D (.lst []))) ∧ ∀ i m H, W i m H →
      (J.stop i H ∧ Qd H) ∨ (J.go i H ∧ ∃ Nx : Hp → Prop, (∀ H', Nx H' → ∃ m', m' < m ∧ W (i + 1) m' H') ∧ ∀ x H', J.yld i H x H' → g x (wipe σ vs) H' fun σ2 H2 => wipe σ2 vs = wipe σ vs ∧ tYes σ2 H2 fun b H3 =>
        if b = true then te σ2 H3 fun y H4 => ∃ acc, H4 D = some (.lst acc) ∧ acc.length < sizeLine ∧ Nx (upd H4 D (.lst (acc ++ [y]))) else Nx H3) := by
  refine lc_it (tt := tYes) w (fun i H => Same H1 H ∧ ∃ ys : List V, ys.length = i ∧ H D = some (.lst ys) ∧ ∀ j y, ys[j]? = some y → R j y H) ⟨same_new hD, [], rfl, upd_same, fun (j : Nat) (y : V) e => by simp at e⟩ (fun i H _ h => hG H h.1) (fun i x H H' hi hP hY => ?_) (fun H hP => ?_)
  · obtain ⟨sm, ys, el, hy, hR⟩ := hP
    obtain ⟨rfl, hx⟩ := hY
    refine hs i x H' hi hx sm _ _ (fun y H4 s4 r4 => ?_)
    · refine ⟨ys, s4 _ _ hy, by rw [el]; exact small1000 (by omega), same_mut (sm.trans s4) hD, ys ++ [y], by rw [List.length_append, el]; rfl, upd_same, fun j z hz => ?_⟩
      have k5 : Kt K H4 (upd H4 D (.lst (ys ++ [y]))) := Kt.lst (s4 _ _ hy)
      by_cases lj : j < ys.length
      · rw [List.getElem?_append_left lj] at hz
        exact mono _ _ _ _ (hR j z hz) ((Kt.same s4).trans k5)
      · rw [List.getElem?_append_right (by omega)] at hz
        have e0 : j - ys.length = 0 := by
          by_cases q : j - ys.length = 0
          · exact q
          · rw [List.getElem?_eq_none (by rw [List.length_singleton]; omega)] at hz
            cases hz
        rw [e0] at hz
        have ez : y = z := by simpa using hz
        have ej : j = i := by omega
        subst ez ej
        exact mono _ _ _ _ r4 k5
  · obtain ⟨sm, ys, el, hy, hR⟩ := hP
    exact hd H ys sm hy el hR
end Lm
namespace Kx
open PySem L2
def rLen (K : PySem.W.Frag) : List V → Hp → VK → Prop := fun xs H Q => ∃ p ys, xs = [.ref p] ∧ (SqL K H p ys ∨ SqT K H p ys) ∧ Q (.int (ys.length : Nat)) H
def rTup (K : PySem.W.Frag) : List V → Hp → VK → Prop := fun xs H Q => ∃ a ys, xs = [.ref a] ∧ SqT K H a ys ∧ Q (.ref a) H
def rTupOf (K : PySem.W.Frag) : List V → Hp → VK → Prop := fun xs H Q => ∃ p ys, xs = [.ref p] ∧ ((SqL K H p ys ∧ ∀ l, H l = none → Q (.ref l) (upd H l (.tup ys))) ∨ (SqT K H p ys ∧ Q (.ref p) H))
end Kx

/-! A method with keywords alone; a def that may raise, where it does not. -/
namespace Mk1
open PySem PySem.Spec PyProof.Rows L2
theorem passF {X : Cx} : Passes (L2.CX X.prog X.w) X (fun _ _ _ => False) := by
  intro pins σ H s e s' I h
  obtain ⟨_, _, _, _, _, _, _, _, _, _, _, _, z⟩ := h
  exact z.elim
section
variable {X : Cx} {CX : CXT} {k : Nat} {f C : Addr} {fd : FuncData} {ps ks : List Str} {sp : Sp} {E : XK} {m : Str} {pos apos : Pos} {o : Expr} {kws : List Keyword} {ta : TE} {tk : TA} {g : List Value → List Value → List Value} {gV : List V → List V → List V} {pl : Sem Bool}
def tMethN (C : Addr) (m : Str) (n : Nat) (sp : Sp) (gV : List V → List V → List V) (E : XK) (ta : TE) (tk : TA) : TE := fun σ H Q => ta σ H fun x H1 => ∃ a dx fs, x = .ref a ∧ H1 a = some (.ins C dx fs) ∧ fs.lookup m = none ∧
  tk σ H1 fun zs H2 => zs.length = n ∧ sp (gV [x] zs) H2 Q E
theorem pe_methN (ho : PE X o ta) (c : Cls X.K C) (hm : Meth X.K C m f) (F : FnOk X.prog X.w X.K X.mg X.base CX k f fd ps sp) (hr : Room k X.A) (hb : KBn X.K fd ps 1 ks g gV) (hx : Passes CX X E) (hk : PK X kws tk)
    (h1 : (backToKw pos (keywordEach kws X.env)).all (·.1.isSome) = true := by rfl) (h2 : (backToKw pos (keywordEach kws X.env)).filterMap (·.1) = ks := by rfl)
    (h3 : ((backTo pos (starEach [] X.env)).any (·.1) || (backToKw pos (keywordEach kws X.env)).any (·.1.isNone)) = false := by rfl)
    (h4 : eval (.Call (.Attribute o m apos) [] kws pos) X.env = (do
      let v ← eval o X.env
      standAt apos.atName
      let (a, b) ← holding [v] (getMethod v m pl)
      callWith pos a b (backTo pos (starEach [] X.env)) (backToKw pos (keywordEach kws X.env))) := by rfl) :
    PE X (.Call (.Attribute o m apos) [] kws pos) (tMethN C m ks.length sp gV E ta tk) := by
  constructor
  intro pins s σ H Q I h
  refine PySem.W.methodCall_KW (pl := pl) (thn (ho.run pins s σ H _ I h) fun u s1 w => ?_) h4
  obtain ⟨x, H1, I1, rx, a, dx, fs, ex, ea, l, q⟩ := w
  subst ex
  cases (show u = Value.ref a from rx)
  refine getmeth_ok I1 ea c hm l ?_
  refine PySem.W.callWith_KW0 (first := [.ref a]) (h₀ := X.base) I.ok.mod.kin hm.kp h1 (thn (hk.run pos pins s1 σ H1 _ I1 q) fun ws s2 w2 => ?_) h3
  obtain ⟨zs, H2, I2, rz, l2, q2⟩ := w2
  refine ⟨I2.kIn, ?_⟩
  rw [h2]
  exact run_fnN (us := [.ref a]) (vs := [.ref a]) F hr hb hx I2 (.cons rfl .nil) rz rfl l2 q2
end
end Mk1

/-! Operators of own classes, by values: ==, <, .. by __eq__, __lt__, ..; |, &, - by __or__, ..; in by __contains__; len by __len__. -/
namespace Ow
open PySem PySem.Spec PyProof.Rows L2
section
variable {X : Cx} {CX : CXT} {C g : Addr} {n : Nat} {sp : Sp} {E : XK}
theorem ins_at {pins : List (Addr × Obj)} {σ : L2.St} {H : Hp} {s : Shared} {a C dx : Addr} {fs : List (Str × V)} (I : Inv X pins σ H s) (e : H a = some (.ins C dx fs)) : ∃ ox od, PySem.W.InstAt s.heap a ox C od := by
  obtain ⟨mA, O, _⟩ := ins_get I.hok e
  obtain ⟨od, J, _⟩ := O.look
  exact ⟨_, _, J⟩
/-- x op y by the own def of x's class at C; y's class not below C -/
def rCmp (K : PySem.W.Frag) (C : Addr) (sp : Sp) (E : XK) : R2 := fun x y H Q => ∃ a dx fs t, x = .ref a ∧ H a = some (.ins C dx fs) ∧ TyX K H y t ∧ PySem.W.notFirst K C t = true ∧ sp [x, y] H Q E
theorem op_cmp {op : CmpOp} (hop : ∀ a b, compareOp op a b = richCompare op a b) (hs : PySem.W.findIn X.K (.ref C) (cmpInfo op).2.1 = some (some (.ref g))) (hf : PySem.W.isFn X.K (.ref g) = true) (F : FnR X.prog X.w X.K X.mg X.base CX n g sp)
    (hr : Room n X.A) (hx : Passes CX X E) : OpR X (compareOp op) (rCmp X.K C sp E) := by
  intro pins s σ H x y v u Q I rx ry h
  obtain ⟨a, dx, fs, t, rfl, ha, ty, hn, q⟩ := h
  cases (show v = Value.ref a from rx)
  obtain ⟨ox, od, J⟩ := ins_at I ha
  obtain ⟨P, k, hp, _⟩ := kit_of I ry ty
  obtain ⟨m, hF⟩ := I.fr
  rw [hop]
  refine PySem.W.cmp_K (op := op) (tb := t) hr.units0 hF I.ok.mod.kin J (k.ty _ _ I.kIn hp) hn hs hf ?_
  refine wpAny_mono (wpAny_call (run_fnR (us := [.ref a, u]) (vs := [.ref a, y]) F hr hx I (.cons rfl (.cons ry .nil)) q)) (fun w s' z => ?_) fun _ _ x => x
  obtain ⟨z', H', I', rz, qz⟩ := z
  exact SlX.cmpback rz ⟨z', H', I', rz, qz⟩
/-- x op y, both of the class at C -/
def rBin (C : Addr) (sp : Sp) (E : XK) : R2 := fun x y H Q => ∃ a dx fs b dy gs, x = .ref a ∧ y = .ref b ∧ H a = some (.ins C dx fs) ∧ H b = some (.ins C dy gs) ∧ sp [x, y] H Q E
theorem op_bin {op : Operator} (hc : PySem.W.selfFirst X.K C = true) (hs : PySem.W.findIn X.K (.ref C) (PySem.dunder op.info.2) = some (some (.ref g))) (hf : PySem.W.isFn X.K (.ref g) = true) (F : FnR X.prog X.w X.K X.mg X.base CX n g sp)
    (hr : Room n X.A) (hx : Passes CX X E) : OpR X (binaryOp op) (rBin C sp E) := by
  intro pins s σ H x y v u Q I rx ry h
  obtain ⟨a, dx, fs, b, dy, gs, rfl, rfl, ha, hb, q⟩ := h
  cases (show v = Value.ref a from rx)
  cases (show u = Value.ref b from ry)
  obtain ⟨ox, od, J⟩ := ins_at I ha
  obtain ⟨oy, oe, J'⟩ := ins_at I hb
  obtain ⟨m, hF⟩ := I.fr
  refine PySem.W.binop_K (op := op) hF I.ok.mod.kin J J'.type hc hs hf ?_
  refine wpAny_mono (wpAny_call (run_fnR (us := [.ref a, .ref b]) (vs := [.ref a, .ref b]) F hr hx I (.cons rfl (.cons rfl .nil)) q)) (fun w s' z => ?_) fun _ _ x => x
  obtain ⟨z', H', I', rz, qz⟩ := z
  exact SlX.cmpback rz ⟨z', H', I', rz, qz⟩
/-- y in x, by __contains__ (its answer a bool) -/
def rIn (C : Addr) (sp : Sp) (E : XK) (neg : Bool) : R2 := fun y x H Q => ∃ a dx fs, x = .ref a ∧ H a = some (.ins C dx fs) ∧ sp [x, y] H (fun z H' => ∃ c, z = .bl c ∧ Q (.bl (if neg then !c else c)) H') E
theorem op_in (hs : PySem.W.findIn X.K (.ref C) "__contains__" = some (some (.ref g))) (hf : PySem.W.isFn X.K (.ref g) = true) (F : FnR X.prog X.w X.K X.mg X.base CX n g sp)
    (hr : Room n X.A) (hx : Passes CX X E) : OpR X (compareOp .In) (rIn C sp E false) := by
  intro pins s σ H y x u v Q I ry rx h
  obtain ⟨a, dx, fs, rfl, ha, q⟩ := h
  cases (show v = Value.ref a from rx)
  obtain ⟨ox, od, J⟩ := ins_at I ha
  obtain ⟨m, hF⟩ := I.fr
  refine PySem.W.in_K hF I.ok.mod.kin J hs hf ?_
  refine wpAny_mono (wpAny_call (run_fnR (us := [.ref a, u]) (vs := [.ref a, y]) F hr hx I (.cons rfl (.cons ry .nil)) q)) (fun w s' z => ?_) fun _ _ x => x
  obtain ⟨z', H', I', rz, c, rfl, qz⟩ := z
  cases (show w = Value.bool c from rz)
  exact wpAny_truthy_bool ⟨.bl c, H', I', rfl, qz⟩
theorem op_notIn (hs : PySem.W.findIn X.K (.ref C) "__contains__" = some (some (.ref g))) (hf : PySem.W.isFn X.K (.ref g) = true) (F : FnR X.prog X.w X.K X.mg X.base CX n g sp)
    (hr : Room n X.A) (hx : Passes CX X E) : OpR X (compareOp .NotIn) (rIn C sp E true) := by
  intro pins s σ H y x u v Q I ry rx h
  obtain ⟨a, dx, fs, rfl, ha, q⟩ := h
  cases (show v = Value.ref a from rx)
  obtain ⟨ox, od, J⟩ := ins_at I ha
  obtain ⟨m, hF⟩ := I.fr
  refine PySem.W.notIn_K hF I.ok.mod.kin J hs hf ?_
  refine wpAny_mono (wpAny_call (run_fnR (us := [.ref a, u]) (vs := [.ref a, y]) F hr hx I (.cons rfl (.cons ry .nil)) q)) (fun w s' z => ?_) fun _ _ x => x
  obtain ⟨z', H', I', rz, c, rfl, qz⟩ := z
  cases (show w = Value.bool c from rz)
  exact wpAny_truthy_bool ⟨.bl (!c), H', I', rfl, qz⟩
/-- len(x), by __len__ -/
def rLen (C : Addr) (sp : Sp) (E : XK) : List V → Hp → VK → Prop := fun xs H Q => ∃ a dx fs, xs = [V.ref a] ∧ H a = some (.ins C dx fs) ∧ sp [.ref a] H (fun z H' => ∃ i : Int, z = .int i ∧ 0 ≤ i ∧ i < 2 ^ 63 ∧ Q (.int i) H') E
theorem call_len (hs : PySem.W.findIn X.K (.ref C) "__len__" = some (some (.ref g))) (hf : PySem.W.isFn X.K (.ref g) = true) (F : FnR X.prog X.w X.K X.mg X.base CX n g sp)
    (hr : Room (n + 1) X.A) (hx : Passes CX X E) : CallR X (.builtin "len") (rLen C sp E) := by
  intro pins s σ H xs us Q I r h
  obtain ⟨a, dx, fs, rfl, ha, q⟩ := h
  obtain ⟨u, rfl, ru⟩ := r.one
  cases (show u = Value.ref a from ru)
  obtain ⟨ox, od, J⟩ := ins_at I ha
  obtain ⟨m, hF⟩ := I.fr
  refine PySem.W.len_K hF I.ok.mod.kin J hs hf (wpAny_mono (wpAny_call (SlX.run_at (us := [.ref a]) (ws := [.ref a]) F hr.in1 I.env0.in1 hx I (.cons rfl .nil) q)) (fun w s' z => ?_) fun _ _ x => x)
  obtain ⟨z', H', I', rz, i, rfl, h0, h1, qz⟩ := z
  obtain ⟨t, e⟩ := (show ∃ t, w = Value.int i t from rz)
  cases e
  exact ⟨⟨h0, h1⟩, .int i, H', I'.tok _, ⟨_, rfl⟩, qz⟩
end
end Ow

/-! The source of draws as a list: its cells, a place, the wide number, the seed, the count. -/
namespace Wm
open PySem L2
/-- the source's list at b, its cells at c -/
def Cl2 (H : Hp) (b c : Addr) : Prop := ∃ k x y z : Int, H b = some (.lst [.ref c, .int k, .int x, .int y, .int z])
structure Bt (b : Addr) (H H' : Hp) : Prop where
  keep : ∀ p o, p ≠ b → H p = some o → H' p = some o
  cel : ∀ c, Cl2 H b c → Cl2 H' b c
instance {b : Addr} {H H' : Hp} : CoeFun (Bt b H H') (fun _ => ∀ p o, p ≠ b → H p = some o → H' p = some o) := ⟨Bt.keep⟩
theorem Bt.refl (b : Addr) (H : Hp) : Bt b H H := ⟨fun _ _ _ h => h, fun _ h => h⟩
theorem Bt.trans {b : Addr} {H H1 H2 : Hp} (x : Bt b H H1) (y : Bt b H1 H2) : Bt b H H2 := ⟨fun p o n h => y.keep p o n (x.keep p o n h), fun c h => y.cel c (x.cel c h)⟩
theorem Bt.of {b : Addr} {H H' : Hp} (s : Same H H') : Bt b H H' := ⟨fun p o _ h => s p o h, fun _ ⟨x, k, m, z, h⟩ => ⟨x, k, m, z, s _ _ h⟩⟩
theorem Bt.set {b c : Addr} {H : Hp} {k x y z k' x' y' z' : Int} (hb : H b = some (.lst [.ref c, .int k, .int x, .int y, .int z])) : Bt b H (upd H b (.lst [.ref c, .int k', .int x', .int y', .int z'])) :=
  ⟨fun p u n h => by
    rw [upd_ne n]
    exact h, fun c2 ⟨a1, a2, a3, a4, h⟩ => by
    rw [hb] at h
    have h := Option.some.inj h
    injection h with h
    injection h with h1 h
    injection h1 with h1
    subst h1
    exact ⟨k', x', y', z', upd_same⟩⟩
/-- the source of draws after at most n of them -/
def Bg (H : Hp) (b : Addr) (n : Nat) : Prop :=
  ∃ (c : Addr) (k x y z : Int) (ns : List Int), H b = some (.lst [.ref c, .int k, .int x, .int y, .int z]) ∧ H c = some (.lst (ns.map V.int)) ∧ 0 ≤ k ∧ 0 ≤ x ∧ 0 ≤ y ∧ y < 2147483648 ∧ 0 ≤ z ∧ z ≤ (n : Int)
theorem bg_ne {H : Hp} {b c : Addr} {k x y z : Int} {ns : List Int} (hb : H b = some (.lst [.ref c, .int k, .int x, .int y, .int z])) (hc : H c = some (.lst (ns.map V.int))) : c ≠ b := by
  intro e
  subst e
  rw [hb] at hc
  have q := Option.some.inj hc
  have q2 : ([.ref c, .int k, .int x, .int y, .int z] : List V) = ns.map V.int := by injection q
  cases ns with
  | nil => simp at q2
  | cons u r => simp at q2
theorem Bg.mono {H : Hp} {b : Addr} {n m : Nat} (h : Bg H b n) (l : n ≤ m) : Bg H b m := by
  obtain ⟨c, k, x, y, z, ns, h1, h2, h3, h4, h5, h6, h7, h8⟩ := h
  exact ⟨c, k, x, y, z, ns, h1, h2, h3, h4, h5, h6, h7, by omega⟩
theorem Bg.keep {H H' : Hp} {b : Addr} {n : Nat} (h : Bg H b n) (s : Same H H') : Bg H' b n := by
  obtain ⟨c, k, x, y, z, ns, h1, h2, h3⟩ := h
  exact ⟨c, k, x, y, z, ns, s _ _ h1, s _ _ h2, h3⟩
theorem Bg.off {H : Hp} {b D : Addr} {n : Nat} (h : Bg H b n) (f : H D = none) : D ≠ b := by
  obtain ⟨c, k, x, y, z, ns, h1, h2, h3⟩ := h
  exact (ne_of_none h1 f).symm
theorem Cl2.uniq {H : Hp} {b c d : Addr} (h : Cl2 H b c) (g : Cl2 H b d) : c = d := by
  obtain ⟨x, k, m, z, h⟩ := h
  obtain ⟨x', k', m', z', g⟩ := g
  rw [h] at g
  have g := Option.some.inj g
  injection g with g
  injection g with g1 g
  injection g1
theorem Bt.put {b D : Addr} {H H' : Hp} {o : HO} (e : Bt b H H') (n : H D = none) : Bt b H (upd H' D o) := by
  refine ⟨fun p u pb h => ?_, fun c h => ?_⟩
  · rw [upd_ne (ne_of_none h n)]
    exact e.keep p u pb h
  · have h0 := h
    obtain ⟨x, k, m, z, h⟩ := h
    obtain ⟨x', k', m', z', g⟩ := e.cel c h0
    exact ⟨x', k', m', z', by rw [upd_ne (ne_of_none h n)]; exact g⟩
/-- a list that is new since is filled: the source stays -/
theorem Bg.put {b D : Addr} {H H' : Hp} {o : HO} {n m : Nat} (bag : Bg H b n) (f : H D = none) (e : Bt b H H') (bag2 : Bg H' b m) : Bg (upd H' D o) b m := by
  obtain ⟨c, k, x, y, z, ns, h1, h2, h3⟩ := bag
  obtain ⟨c', k', x', y', z', ns', g1, g2, g3⟩ := bag2
  have ec : c = c' := Cl2.uniq (e.cel c ⟨k, x, y, z, h1⟩) ⟨k', x', y', z', g1⟩
  subst ec
  exact ⟨c, k', x', y', z', ns', by rw [upd_ne (ne_of_none h1 f)]; exact g1, by rw [upd_ne (ne_of_none h2 f)]; exact g2, g3⟩
end Wm

/-! set(xs) of a list or a tuple of ints, as a set object. -/
namespace Si
open PySem PySem.Spec PyProof.Rows
section
variable {prog : Program} {w : World} {A : Around} {E : Value → Shared → Prop} {s : Shared}
theorem code_led1 (a : Value) {Q₁ : Value → Shared → Prop}
    (h : Q₁ (.ref s.heap.objs.size) { s with heap := s.heap.push { cls := .type "set", dict := none, data := .set #[] 0 (.fresh 0 0 (!w.params.followText "set-order")) } }) :
    codeAny (model prog w) A (.call (.builtin "set.__new__") ⟨[.type "set", a], []⟩) (wants Q₁ E) s := by
  refine codeAny_of_tree ?_
  show wpAny _ A.in1 (do checkBuiltinCall "set.__new__" ⟨[.type "set", a], []⟩; again (.builtin "set.__new__" ⟨[.type "set", a], []⟩)) _ _ s
  refine wpAny_bind (wpAny_of_eq (F.newCall_set_1 a) (wpAny_pure ⟨plainId_quiet F.plain_set_new _, codeAny_builtin F.entry_set_new ?_⟩))
  rw [Around.under_plainId F.plain_set_new _]
  unfold Builtin.«set.__new__» Builtin.Frozenset.newClass
  have hsub := sub_set_self
  obtain ⟨hp, g, d, tk, os⟩ := s
  dsimp only
  wp_walk
  refine wpAny_askSetting (wpAny_pure ?_)
  dsimp only
  simp only [newObj]
  refine wpAny_bind (wpAny_alloc (wpAny_pure ?_))
  exact wpAny_pure h
theorem ints_len : ∀ {vs : List Value} {xs : List Int}, IntsAre vs xs → vs.length = xs.length
  | _, _, .nil => rfl
  | _, _, .cons _ _ h => by rw [List.length_cons, List.length_cons, ints_len h]
theorem ints_at : ∀ {vs : List Value} {xs : List Int}, IntsAre vs xs → ∀ (i : Nat) v, vs[i]? = some v → ∃ x t, xs[i]? = some x ∧ v = .int x t
  | _, _, .nil, i, v, e => by simp at e
  | _, _, .cons x t h, 0, v, e => ⟨x, t, rfl, by simpa using e.symm⟩
  | _, _, .cons _ _ h, i + 1, v, e => by
    obtain ⟨x, t, e1, e2⟩ := ints_at h i v (by simpa using e)
    exact ⟨x, t, by simpa using e1, e2⟩
abbrev so (led : Bool) : Obj := { cls := .type "set", dict := none, data := .set #[] 0 (.fresh 0 0 led) }
theorem fill {R : Result → Shared → Prop} {I : Addr} {fp wr : List Addr} {G : Array GenState → Array GenState → Prop} {n : Nat} {P : Nat → Value → Prop} {St : Nat → Shared → Prop}
    (W : WalksS prog w A.in1 I fp wr G n P St) (S : Addr) (hSf : S ∉ fp) (xs : List Int) (hsz : xs.length = n) (hb : n + 1 < scanBound) (hval : ∀ i v, P i v → ∃ x t, xs[i]? = some x ∧ v = .int x t) :
    ∀ (k i : Nat) (s : Shared), n - i = k → i ≤ n → St i s → (∃ c, c ≤ i ∧ L2.SetR w s.heap S (fun y => decide (y ∈ xs.take i)) c) →
      (∀ s' c, Moved (S :: wr) G s s' → c ≤ n → L2.SetR w s'.heap S (fun y => decide (y ∈ xs.take n)) c → R (.ok (.ret .none)) s') →
      codeAny (model prog w) A (.builtin "set.update.loop" ⟨[.ref S, .ref I], []⟩) R s := by
  have nw : S ∉ wr := fun h => hSf (W.sub _ h)
  have more : ∀ b ∈ wr, b ∈ S :: wr := fun b hb => List.mem_cons_of_mem _ hb
  intro k
  induction k with
  | zero =>
    intro i s hk hi st ⟨c, hc, hS⟩ hR
    have e : i = n := by omega
    subst e
    refine codeAny_builtin PyProof.Rows.F.entry_set_update_loop ?_
    rw [Around.under_plainId PyProof.Rows.F.plain_set_update_loop _]
    show wpAny _ A.in1 (pyNext (.ref I) >>= _) _ _ s
    refine wpAny_bind (W.done s _ _ st fun s' hm => ?_)
    show wpAny _ A.in1 (ret Value.none) _ _ s'
    exact wpAny_pure (hR s' c (hm.mono more) hc (L2.SetR.at hS fun o e => hm.heap S o nw e))
  | succ k ih =>
    intro i s hk hi st ⟨c, hc, hS⟩ hR
    have lt : i < n := by omega
    refine codeAny_builtin PyProof.Rows.F.entry_set_update_loop ?_
    rw [Around.under_plainId PyProof.Rows.F.plain_set_update_loop _]
    show wpAny _ A.in1 (pyNext (.ref I) >>= _) _ _ s
    refine wpAny_bind (W.item i s _ _ lt st fun v s' hP st' hm => ?_)
    obtain ⟨x, t, hx, rfl⟩ := hval i v hP
    have hS1 := L2.SetR.at (h' := s'.heap) hS fun o e => hm.heap S o nw e
    show wpAny _ A.in1 (holding [Value.int x t] (setAdd S (.int x t)) >>= _) _ _ s'
    refine wpAny_bind (wpAny_holding ?_)
    unfold setAdd
    refine wpAny_holding ?_
    refine wpAny_bind ((PySem.intKind prog w).pyHash (k := x) (intKind_is _ _ _ _) ?_)
    refine L2.setR_add_hashed (s := { s' with toks := s'.toks + 1 }) hS1 (by omega) fun g same hS2 => ?_
    have hS3 := L2.SetR.congr (S' := fun y => decide (y ∈ xs.take (i + 1))) hS2 (fun y => by
      rw [List.take_add_one, hx]
      simp [List.mem_append])
    refine wpAny_pure ⟨plainId_quiet PyProof.Rows.F.plain_set_update_loop _, ih (i + 1) _ (by omega) lt (W.frame _ s' _ _ st' (Nat.le_succ _) fun b hb o e => ?_) ⟨_, (by split <;> omega), hS3⟩ fun s2 c2 m2 hc2 hS4 => ?_⟩
    · rw [same.2 b (fun h : b = S => hSf (by rw [← h]; exact hb))]
      exact e
    · refine hR s2 c2 (Moved.trans W.gtrans ((hm.mono more).then_heap (Nat.le_succ _) fun b o hb e => ?_) m2) hc2 hS4
      rw [same.2 b (fun h : b = S => hb (by rw [h]; exact List.mem_cons_self))]
      exact e
set_option maxHeartbeats 3200000 in
theorem set_ints {l : Addr} {its : Array Value} {xs : List Int} {Q : Value → Shared → Prop} (hh : A.handled = none) (hl : s.heap.IsList l its) (hi : PyProof.Rows.IntsAre its.toList xs) (hb : xs.length + 1 < scanBound)
    (q : ∀ (g : Heap) (tk c : Nat), c ≤ xs.length → L2.SetR w g s.heap.objs.size (fun y => decide (y ∈ xs)) c → (∀ b o, b < s.heap.objs.size → s.heap.get? b = some o → g.get? b = some o) → Q (.ref s.heap.objs.size) { s with heap := g, toks := tk }) :
    wpAny (model prog w) A (call (.type "set") [.ref l]) Q E s := by
  obtain ⟨c0, tl0, m0⟩ := PySem.F.called_set.mro
  have a1 := PySem.F.called_set.made
  have a2 := PySem.F.called_set.sub
  refine wpAny_call (codeAny_of_tree ?_)
  show wpAny _ _ (callAny (.type "set") _) _ _ _
  refine wpAny_pure ⟨Code.quiet_builtin _ (by decide +kernel), codeAny_builtin PySem.F.entry_type_call ?_⟩
  rw [Around.under_plain (weight_type_call_type "set" [.ref l] []) rfl]
  have a3 := PySem.F.called_set.notType
  have a4 := PySem.F.called_set.canCreate
  have a5 := PySem.F.typeCall_set_1 (.ref l)
  repeat (any_goals (first | assumption | wp_step))
  refine codeAny_mono (code_led1 (.ref l) (E := E) (Q₁ := fun ob s₁ => ob = .ref s.heap.objs.size ∧ s₁ = { s with heap := s.heap.push { cls := .type "set", dict := none, data := .set #[] 0 (.fresh 0 0 (!w.params.followText "set-order")) } }) ⟨rfl, rfl⟩) fun r s₁ hr => ?_
  cases r with
  | error e => exact hr
  | ok fl =>
    cases fl with
    | ret ob =>
      obtain ⟨rfl, rfl⟩ := hr
      generalize hso : ({ cls := .type "set", dict := none, data := .set #[] 0 (.fresh 0 0 (!w.params.followText "set-order")) } : Obj) = so
      have hfr : so.isFreed = false := by rw [← hso]; rfl
      have b1 : (s.heap.push so).get? s.heap.objs.size = some so := Heap.get?_push_size _ hfr
      have b2 : Shared.TypeIs { s with heap := s.heap.push so } (.ref s.heap.objs.size) "set" := ⟨_, b1, by rw [← hso]⟩
      have b3 := PySem.F.called_set.init.lookup
      have b4 := PySem.F.called_set.init.bind (.ref s.heap.objs.size)
      repeat (any_goals (first | assumption | wp_step))
      refine codeAny_mono (codeAny_call_builtin (R := wants (fun r s₂ => r = .none ∧ ∃ g tk c, s₂ = { s with heap := g, toks := tk } ∧ c ≤ xs.length ∧ L2.SetR w g s.heap.objs.size (fun y => decide (y ∈ xs)) c ∧
          (∀ b o, b < s.heap.objs.size → s.heap.get? b = some o → g.get? b = some o)) E) PySem.F.called_set.init.plain PySem.F.entry_set_init (check_set_init_1 b2 ?_)) fun r₂ s₂ hr₂ => ?_
      · obtain ⟨ol, hol, hcl, nl, hdl⟩ := hl
        obtain ⟨ocls, odict, odata, oslots⟩ := ol
        simp only at hcl hdl
        subst hcl hdl
        have hol' : (s.heap.push so).get? l = some { cls := .type "list", dict := odict, data := .seq its nl, slots := oslots } := Heap.get?_push_of_some _ hol
        have c1 := PySem.F.sub_list_set
        have c2 := PySem.F.sub_list_frozenset
        have c3 : (Value.type "list" == Value.type "dict") = false := by decide
        have hl1 : (s.heap.push so).IsList l its := ⟨_, hol', rfl, nl, rfl⟩
        unfold Builtin.«set.__init__» noKeywords Builtin.Frozenset.updateFrom
        generalize hPI : pyIter = PI
        have ll : l < s.heap.objs.size := Heap.lt_size hol
        have nI : ∀ ob : Obj, l ≠ (s.heap.push ob).objs.size := fun ob => by
          rw [Heap.size_push]
          exact Nat.ne_of_lt (Nat.lt_succ_of_lt ll)
        have nS : ∀ ob : Obj, s.heap.objs.size ∉ [(s.heap.push ob).objs.size, l] := fun ob => by
          rw [Heap.size_push]
          simp only [List.mem_cons, List.mem_singleton, List.not_mem_nil, or_false, not_or]
          exact ⟨Nat.ne_of_lt (Nat.lt_succ_self _), Nat.ne_of_gt ll⟩
        have nB : ∀ (ob : Obj) (b : Addr), b < s.heap.objs.size → b ≠ (s.heap.push ob).objs.size := fun ob b lb => by
          rw [Heap.size_push]
          exact Nat.ne_of_lt (Nat.lt_succ_of_lt lb)
        subst hso
        wp_walk
        subst hPI
        refine wpAny_pyIter_list hl1 ?_
        refine wpAny_bind (wpAny_runValue ?_)
        have hh3 : A.in1.in1.in1.handled = none := by simp [hh]
        have sz : xs.length = its.size := by rw [← ints_len hi, Array.length_toList]
        have hval : ∀ (i : Nat) (v : Value), its[i]? = some v → ∃ x t, xs[i]? = some x ∧ v = .int x t := fun i v hv => ints_at hi i v (by rw [Array.getElem?_toList]; exact hv)
        refine fill ((Walks.list hh3 _ l (nI (so (!w.params.followText "set-order"))) its).toS) s.heap.objs.size (nS (so (!w.params.followText "set-order"))) xs sz (by rw [← sz]; exact hb) hval (its.size - 0) 0 _ (by omega) (Nat.zero_le _)
          ⟨⟨_, Heap.get?_push_size _ rfl, rfl, rfl⟩, (hl1.push _)⟩ ?hS0 ?hR
        case hS0 =>
          exact ⟨0, Nat.le_refl _, L2.SetR.congr (L2.SetR.at (L2.setR_fresh w) fun o e => Heap.get?_push_of_some _ e) (fun _ => by simp)⟩
        case hR =>
          intro s' c' hm hc' hS'
          obtain ⟨g, g', d', tk', os'⟩ := s'
          have eg : g' = s.gens := hm.gens
          have ed : d' = s.drawn := hm.drawn
          have eo : os' = s.os := hm.os
          subst eg ed eo
          show wpAny _ _ _ _ _ _
          refine wpAny_pure ?_
          show wpAny _ _ (ret Value.none) _ _ _
          rw [← sz, List.take_length] at hS'
          rw [← sz] at hc'
          refine wpAny_pure ⟨rfl, g, tk', c', rfl, hc', hS', fun b o lb e => ?_⟩
          have n1 : b ≠ s.heap.objs.size := Nat.ne_of_lt lb
          have n2 := nB (so (!w.params.followText "set-order")) b lb
          exact hm.heap b o (by simp only [List.mem_cons, List.mem_singleton, List.not_mem_nil, or_false, not_or]; exact ⟨n1, n2⟩) (Heap.get?_push_of_some _ (Heap.get?_push_of_some _ e))
      · cases r₂ with
        | error e => exact hr₂
        | ok fl₂ =>
          cases fl₂ with
          | ret r =>
            obtain ⟨rfl, g, tk, c', rfl, hc', hS', hk'⟩ := hr₂
            repeat (any_goals (first | assumption | wp_step))
            exact q _ _ _ hc' hS' hk'
          | _ => exact hr₂.elim
    | _ => exact hr.elim
set_option maxHeartbeats 3200000 in
theorem set_intsT {l : Addr} {its : Array Value} {xs : List Int} {Q : Value → Shared → Prop} (hh : A.handled = none) (hl : s.heap.IsTuple l its) (hi : PyProof.Rows.IntsAre its.toList xs) (hb : xs.length + 1 < scanBound)
    (q : ∀ (g : Heap) (tk c : Nat), c ≤ xs.length → L2.SetR w g s.heap.objs.size (fun y => decide (y ∈ xs)) c → (∀ b o, b < s.heap.objs.size → s.heap.get? b = some o → g.get? b = some o) → Q (.ref s.heap.objs.size) { s with heap := g, toks := tk }) :
    wpAny (model prog w) A (call (.type "set") [.ref l]) Q E s := by
  obtain ⟨c0, tl0, m0⟩ := PySem.F.called_set.mro
  have a1 := PySem.F.called_set.made
  have a2 := PySem.F.called_set.sub
  refine wpAny_call (codeAny_of_tree ?_)
  show wpAny _ _ (callAny (.type "set") _) _ _ _
  refine wpAny_pure ⟨Code.quiet_builtin _ (by decide +kernel), codeAny_builtin PySem.F.entry_type_call ?_⟩
  rw [Around.under_plain (weight_type_call_type "set" [.ref l] []) rfl]
  have a3 := PySem.F.called_set.notType
  have a4 := PySem.F.called_set.canCreate
  have a5 := PySem.F.typeCall_set_1 (.ref l)
  repeat (any_goals (first | assumption | wp_step))
  refine codeAny_mono (code_led1 (.ref l) (E := E) (Q₁ := fun ob s₁ => ob = .ref s.heap.objs.size ∧ s₁ = { s with heap := s.heap.push { cls := .type "set", dict := none, data := .set #[] 0 (.fresh 0 0 (!w.params.followText "set-order")) } }) ⟨rfl, rfl⟩) fun r s₁ hr => ?_
  cases r with
  | error e => exact hr
  | ok fl =>
    cases fl with
    | ret ob =>
      obtain ⟨rfl, rfl⟩ := hr
      generalize hso : ({ cls := .type "set", dict := none, data := .set #[] 0 (.fresh 0 0 (!w.params.followText "set-order")) } : Obj) = so
      have hfr : so.isFreed = false := by rw [← hso]; rfl
      have b1 : (s.heap.push so).get? s.heap.objs.size = some so := Heap.get?_push_size _ hfr
      have b2 : Shared.TypeIs { s with heap := s.heap.push so } (.ref s.heap.objs.size) "set" := ⟨_, b1, by rw [← hso]⟩
      have b3 := PySem.F.called_set.init.lookup
      have b4 := PySem.F.called_set.init.bind (.ref s.heap.objs.size)
      repeat (any_goals (first | assumption | wp_step))
      refine codeAny_mono (codeAny_call_builtin (R := wants (fun r s₂ => r = .none ∧ ∃ g tk c, s₂ = { s with heap := g, toks := tk } ∧ c ≤ xs.length ∧ L2.SetR w g s.heap.objs.size (fun y => decide (y ∈ xs)) c ∧
          (∀ b o, b < s.heap.objs.size → s.heap.get? b = some o → g.get? b = some o)) E) PySem.F.called_set.init.plain PySem.F.entry_set_init (check_set_init_1 b2 ?_)) fun r₂ s₂ hr₂ => ?_
      · obtain ⟨ol, hol, hcl, nl, hdl⟩ := hl
        obtain ⟨ocls, odict, odata, oslots⟩ := ol
        simp only at hcl hdl
        subst hcl hdl
        have hol' : (s.heap.push so).get? l = some { cls := .type "tuple", dict := odict, data := .seq its nl, slots := oslots } := Heap.get?_push_of_some _ hol
        have c1 := PySem.F.sub_tuple_set
        have c2 := PySem.F.sub_tuple_frozenset
        have c3 : (Value.type "tuple" == Value.type "dict") = false := by decide
        have hl1 : (s.heap.push so).IsTuple l its := ⟨_, hol', rfl, nl, rfl⟩
        unfold Builtin.«set.__init__» noKeywords Builtin.Frozenset.updateFrom
        generalize hPI : pyIter = PI
        have ll : l < s.heap.objs.size := Heap.lt_size hol
        have nI : ∀ ob : Obj, l ≠ (s.heap.push ob).objs.size := fun ob => by
          rw [Heap.size_push]
          exact Nat.ne_of_lt (Nat.lt_succ_of_lt ll)
        have nS : ∀ ob : Obj, s.heap.objs.size ∉ [(s.heap.push ob).objs.size, l] := fun ob => by
          rw [Heap.size_push]
          simp only [List.mem_cons, List.mem_singleton, List.not_mem_nil, or_false, not_or]
          exact ⟨Nat.ne_of_lt (Nat.lt_succ_self _), Nat.ne_of_gt ll⟩
        have nB : ∀ (ob : Obj) (b : Addr), b < s.heap.objs.size → b ≠ (s.heap.push ob).objs.size := fun ob b lb => by
          rw [Heap.size_push]
          exact Nat.ne_of_lt (Nat.lt_succ_of_lt lb)
        subst hso
        wp_walk
        subst hPI
        refine wpAny_pyIter_tuple hl1 ?_
        refine wpAny_bind (wpAny_runValue ?_)
        have hh3 : A.in1.in1.in1.handled = none := by simp [hh]
        have sz : xs.length = its.size := by rw [← ints_len hi, Array.length_toList]
        have hval : ∀ (i : Nat) (v : Value), its[i]? = some v → ∃ x t, xs[i]? = some x ∧ v = .int x t := fun i v hv => ints_at hi i v (by rw [Array.getElem?_toList]; exact hv)
        refine fill ((Walks.tuple hh3 _ l (nI (so (!w.params.followText "set-order"))) its).toS) s.heap.objs.size (nS (so (!w.params.followText "set-order"))) xs sz (by rw [← sz]; exact hb) hval (its.size - 0) 0 _ (by omega) (Nat.zero_le _)
          ⟨⟨_, Heap.get?_push_size _ rfl, rfl, rfl⟩, (hl1.push _)⟩ ?hS0 ?hR
        case hS0 =>
          exact ⟨0, Nat.le_refl _, L2.SetR.congr (L2.SetR.at (L2.setR_fresh w) fun o e => Heap.get?_push_of_some _ e) (fun _ => by simp)⟩
        case hR =>
          intro s' c' hm hc' hS'
          obtain ⟨g, g', d', tk', os'⟩ := s'
          have eg : g' = s.gens := hm.gens
          have ed : d' = s.drawn := hm.drawn
          have eo : os' = s.os := hm.os
          subst eg ed eo
          show wpAny _ _ _ _ _ _
          refine wpAny_pure ?_
          show wpAny _ _ (ret Value.none) _ _ _
          rw [← sz, List.take_length] at hS'
          rw [← sz] at hc'
          refine wpAny_pure ⟨rfl, g, tk', c', rfl, hc', hS', fun b o lb e => ?_⟩
          have n1 : b ≠ s.heap.objs.size := Nat.ne_of_lt lb
          have n2 := nB (so (!w.params.followText "set-order")) b lb
          exact hm.heap b o (by simp only [List.mem_cons, List.mem_singleton, List.not_mem_nil, or_false, not_or]; exact ⟨n1, n2⟩) (Heap.get?_push_of_some _ (Heap.get?_push_of_some _ e))
      · cases r₂ with
        | error e => exact hr₂
        | ok fl₂ =>
          cases fl₂ with
          | ret r =>
            obtain ⟨rfl, g, tk, c', rfl, hc', hS', hk'⟩ := hr₂
            repeat (any_goals (first | assumption | wp_step))
            exact q _ _ _ hc' hS' hk'
          | _ => exact hr₂.elim
    | _ => exact hr.elim
end
end Si
namespace Si
open PySem PySem.Spec PyProof.Rows L2
section
variable {X : Cx}
theorem intsAre : ∀ {ns : List Int} {us : List Value}, Vals (ns.map V.int) us → IntsAre us ns
  | [], _, .nil => .nil
  | n :: ns, _, .cons r rt => by
    obtain ⟨t, rfl⟩ := r
    exact .cons n t (intsAre rt)
/-- set(xs), xs a list or a tuple of ints -/
def rSet (K : PySem.W.Frag) (w : World) : List V → Hp → VK → Prop := fun xs H Q => ∃ (p : Addr) (ns : List Int), xs = [.ref p] ∧ (SqL K H p (ns.map V.int) ∨ SqT K H p (ns.map V.int)) ∧ ns.length ≤ 4000 ∧
  ∀ S c, c ≤ ns.length → H S = none → Q (.ref S) (upd H S (SetO w S (fun y => decide (y ∈ ns)) c))
theorem call_set (hc : X.calm = true) : CallR X (.type "set") (rSet X.K X.w) := by
  intro pins s σ H xs us Q I r h
  obtain ⟨p, ns, rfl, hq, hl, k⟩ := h
  obtain ⟨u, rfl, ru⟩ := r.one
  cases (show u = Value.ref p from ru)
  rcases hq with hq | hq
  · obtain ⟨its, r, pl, hz⟩ := I.list hq
    refine set_ints (I.ok.hd hc) pl.isList (by simpa using intsAre r) (by unfold scanBound; omega) fun g tk c hcn hS hk => ?_
    exact ⟨.ref _, _, I.laid (t' := tk) (fun b u e => hk b u (Heap.lt_size e) e) (Nat.le_refl _) (setO_new hS), rfl, k _ c hcn (I.hok.fresh (Nat.le_refl _))⟩
  · obtain ⟨its, r, pl, hz⟩ := I.tuple hq
    refine set_intsT (I.ok.hd hc) pl (by simpa using intsAre r) (by unfold scanBound; omega) fun g tk c hcn hS hk => ?_
    exact ⟨.ref _, _, I.laid (t' := tk) (fun b u e => hk b u (Heap.lt_size e) e) (Nat.le_refl _) (setO_new hS), rfl, k _ c hcn (I.hok.fresh (Nat.le_refl _))⟩
end
end Si

/-! iter(tuple) as a value; list(x), x with an __iter__ that gives such a one, and an own __len__. -/
namespace Li
open PySem PySem.Spec PyProof.Rows L2
/-- an iterator of the tuple t, not begun -/
def TiO (t it : Addr) : HO := .ext fun h => h.IsTupleIter it t 0
theorem ti_at {h h' : Heap} {t it : Addr} {i : Nat} (x : h.IsTupleIter it t i) (k : ∀ o, h.get? it = some o → h'.get? it = some o) : h'.IsTupleIter it t i := by
  obtain ⟨o, e, r⟩ := x
  exact ⟨o, k o e, r⟩
theorem ti_ok {P : Program} {w : World} {H : Hp} {h : Heap} {t it : Addr} (x : h.IsTupleIter it t 0) : ObjOk P w H h it (TiO t it) :=
  ⟨x, by obtain ⟨o, e, _⟩ := x; exact ⟨o, e⟩, fun _ _ p k => ti_at p k⟩
/-- iter(t): the iterator is younger than all that is tracked -/
def rIterT (K : PySem.W.Frag) : List V → Hp → VK → Prop := fun xs H Q => ∃ (t : Addr) (zs : List V), xs = [.ref t] ∧ SqT K H t zs ∧ ∀ it, H it = none → (∀ b o, H b = some o → b < it) → Q (.ref it) (upd H it (TiO t it))
section
variable {X : Cx}
theorem call_iterT : CallR X (.builtin "iter") (rIterT X.K) := by
  intro pins s σ H xs us Q I r h
  obtain ⟨t, zs, rfl, hq, q⟩ := h
  obtain ⟨u, rfl, ru⟩ := r.one
  cases (show u = Value.ref t from ru)
  obtain ⟨its, rv, pl, hz⟩ := I.tuple hq
  refine Calls.call_function_entry (by decide +kernel) (by decide +kernel) PySem.W.kdk_entry_iter (PySem.W.kdk_args_iter _) ?_
  unfold Builtin.«iter»
  refine wpAny_bind (m := someArgs "iter" 1 2 _) (wpAny_of_eq (a := [Value.ref t]) (by first | rfl | kernel_rfl!) ?_)
  show wpAny _ _ (pyIter (.ref t) >>= _) _ _ _
  refine wpAny_bind (wpAny_pyIter_tuple (items := its.toArray) pl (wpAny_pure ⟨_, rfl, ?_⟩))
  refine ⟨.ref s.heap.objs.size, _, I.laid (t' := s.toks) (fun b u e => Heap.get?_push_of_some _ e) (Nat.le_refl _) (ti_ok ⟨_, Heap.get?_push_size _ rfl, rfl, rfl⟩), rfl, q _ (I.hok.fresh (Nat.le_refl _)) fun b o e => ?_⟩
  exact (I.hok b o e).lt
end
section
variable {X : Cx} {pins : List (Addr × Obj)} {σ : L2.St} {q it t : Addr} {zs : List V} {A1 : Around} {Rs : Result → Shared → Prop}
/-- the list at q takes what the iterator gives -/
theorem fill (hh : A1.in1.handled = none) (few : zs.length ≤ 1000) : ∀ (k i : Nat) (H : Hp) (s : Shared), zs.length - i = k → i ≤ zs.length → Inv X pins σ H s → H q = some (.lst (zs.take i)) → FpOk X pins H it → s.heap.IsTupleIter it t i → SqT X.K H t zs →
    (∀ s', Inv X pins σ (upd H q (.lst zs)) s' → Rs (.ok (.ret .none)) s') → codeAny (model X.prog X.w) A1 (.builtin "list.extend.loop" ⟨[.ref q, .ref it, .none], []⟩) Rs s := by
  intro k
  have sz := sizeLine_eq
  induction k with
  | zero =>
    intro i H s hk hi I hq fp st ht hd
    have e : i = zs.length := by omega
    subst e
    obtain ⟨its, rv, pl, hz⟩ := I.tuple ht
    have li := rv.length
    obtain ⟨f0, f1, f2, f3, f4, f5⟩ := fp
    refine codeAny_builtin PySem.F.entry_extend_loop ?_
    rw [Around.under_plainId PySem.F.plain_extend_loop _]
    show wpAny _ A1.in1 (pyNext (.ref it) >>= _) _ _ s
    refine wpAny_bind (wpAny_pyNext_tuple_end hh st (items := its.toArray) pl (by rw [List.getElem?_toArray, List.getElem?_eq_none (by omega)]) fun h' ex => ?_)
    have I1 := I.turned (t' := s.toks) (h' := h') (fun b o nb e => ex b o nb e) f0 f1 f3 f4 f5
    rw [List.take_length] at hq
    have e : upd H q (.lst zs) = H := by
      funext b
      by_cases c : b = q
      · rw [c, upd_same, hq]
      · rw [upd_ne c]
    exact wpAny_pure (hd _ (by rw [e]; exact I1))
  | succ k ih =>
    intro i H s hk hi I hq fp st ht hd
    have lt : i < zs.length := by omega
    obtain ⟨its, rv, pl, hz⟩ := I.tuple ht
    obtain ⟨u, hu, ru⟩ := rv.get (List.getElem?_eq_getElem lt)
    obtain ⟨f0, f1, f2, f3, f4, f5⟩ := id fp
    refine codeAny_builtin PySem.F.entry_extend_loop ?_
    rw [Around.under_plainId PySem.F.plain_extend_loop _]
    show wpAny _ A1.in1 (pyNext (.ref it) >>= _) _ _ s
    refine wpAny_bind (wpAny_pyNext_tuple_item st (items := its.toArray) pl (x := u) (by simpa using hu) fun h' st' sb => ?_)
    have I1 := I.turned (t' := s.toks) (h' := h') (fun b o nb e => (sb.2 b nb).trans e) f0 f1 f3 f4 f5
    obtain ⟨z, ls, kk, r2, hl, e⟩ := I1.lstM hq
    have ll := r2.length
    rw [List.length_take] at ll
    show wpAny _ A1.in1 (updateSeq q (·.push u) >>= _) _ _ _
    have nq : it ≠ q := fun c => by rw [← c, f0] at hq; cases hq
    refine wpAny_bind (wpAny_updateSeq e rfl (wpAny_pure ⟨plainId_quiet PySem.F.plain_extend_loop _, ?_⟩) (by rw [List.size_toArray]; omega) (by show (ls.toArray.push u).size ≤ sizeLine + 1; rw [Array.size_push, List.size_toArray]; omega))
    have I2 := I1.lset (f := (·.push u)) (its' := ls ++ [u]) (t' := s.toks) hq e (by simp) (r2.append (.cons ru .nil)) (by rw [List.length_append, List.length_singleton, List.length_take]; omega)
    have tk : zs.take i ++ [zs[i]] = zs.take (i + 1) := by rw [List.take_add_one, List.getElem?_eq_getElem lt]; rfl
    rw [tk] at I2
    refine ih (i + 1) _ _ (by omega) lt I2 upd_same ⟨by rw [upd_ne nq]; exact f0, f1, f2, f3, f4, f5⟩ (ti_at st' fun o e => ?_) ?_ fun s' I' => hd s' (by rw [upd_upd] at I'; exact I')
    · exact (Heap.get?_update_other _ _ (Ne.symm nq)).trans e
    · rcases ht with (w1 | ⟨o, w2⟩) | w3
      · refine .inl (.inl ?_)
        rw [upd_ne fun c => by rw [c, hq] at w1; cases w1]
        exact w1
      · refine .inl (.inr ⟨o, ?_⟩)
        rw [upd_ne fun c => by rw [c, hq] at w2; cases w2]
        exact w2
      · exact .inr w3
end
end Li
namespace Li
open PySem PySem.Spec PyProof.Rows L2 ItX
section
variable {X : Cx} {C fi fl : Addr} {spI spL : Sp} {EI EL : XK} {n : Nat}
/-- a def that never raises, called anywhere within -/
theorem sure_at {A : Around} {Q : VK} {E : XK} {g : Addr} {sp : Sp} {us : List Value} {ws : List V} {pins : List (Addr × Obj)} {σ : L2.St} {H : Hp} {s : Shared} (F : FnR X.prog X.w X.K X.mg X.base CX0 n g sp) (hr : Room n A) (e0 : Env0 X.prog X.w X.K X.mg X.base A X.stack s H) (I : Inv X pins σ H s)
    (r : Vals ws us) (h : sp ws H Q E) : codeAny (model X.prog X.w) A (.call (.ref g) ⟨us, []⟩) (fun r s' => match r with | .ok (.ret v) => EP X pins σ Q v s' | .ok _ => False | .error _ => False) s := by
  refine codeAny_mono (F A X.stack s H us ws Q E hr e0 r h) fun r s' z => ?_
  match r, z with
  | .ok (.ret _), z => exact I.after z
  | .ok .next, z => exact z.elim
  | .ok .brk, z => exact z.elim
  | .ok .cont, z => exact z.elim
  | .error _, z => exact z.elim
/-- list(x): its __iter__ gives an iterator of a tuple, its __len__ a number -/
def rListIt (K : PySem.W.Frag) (C : Addr) (spI spL : Sp) (EI EL : XK) : List V → Hp → VK → Prop := fun xs H Q => ∃ a dx fs, xs = [.ref a] ∧ H a = some (.ins C dx fs) ∧ ∀ q, H q = none → spI [.ref a] (upd H q (.lst []))
  (fun v H1 => ∃ it t zs, v = .ref it ∧ H1 it = some (TiO t it) ∧ q < it ∧ SqT K H1 t zs ∧ zs.length ≤ 1000 ∧ H1 q = some (.lst []) ∧ H1 a = some (.ins C dx fs) ∧
    spL [.ref a] H1 (fun z H2 => ∃ i : Int, z = .int i ∧ 0 ≤ i ∧ i < 1000 ∧ H2 = H1 ∧ Q (.ref q) (upd (dropH H1 it) q (.lst zs))) EL) EI
theorem call_listIt (hs : PySem.W.findIn X.K (.ref C) "__iter__" = some (some (.ref fi))) (hf : PySem.W.isFn X.K (.ref fi) = true) (hl : PySem.W.findIn X.K (.ref C) "__len__" = some (some (.ref fl))) (hlf : PySem.W.isFn X.K (.ref fl) = true)
    (FI : FnR X.prog X.w X.K X.mg X.base CX0 n fi spI) (FL : FnR X.prog X.w X.K X.mg X.base CX0 n fl spL) (hc : X.calm = true) (hr : Room (n + 4) X.A) : CallR X (.type "list") (rListIt X.K C spI spL EI EL) := by
  intro pins s σ H xs us Q I rv h
  obtain ⟨a, dx, fs, rfl, ha, hq⟩ := h
  obtain ⟨u, rfl, ru⟩ := rv.one
  cases (show u = Value.ref a from ru)
  have sb : Sub X (n + 1) X.A.in1.in1.in1 := Sub.in1 (Sub.in1 (Sub.in1 ⟨hr, rfl⟩))
  refine callType_codes (Q₁ := fun obj s₁ => obj = .ref s.heap.objs.size ∧ s₁ = { s with heap := s.heap.push { cls := .type "list", data := .seq #[] } })
    PySem.F.called_list (PySem.F.typeCall_list_1 _) PySem.F.entry_list_init (code_list_new _ ⟨rfl, rfl⟩) fun obj s₁ h₁ => ?_
  obtain ⟨rfl, rfl⟩ := h₁
  have hS : (s.heap.push { cls := .type "list", data := .seq #[] }).get? s.heap.objs.size = some { cls := .type "list", data := .seq #[] } := Heap.get?_push_size _ rfl
  refine ⟨⟨_, hS, rfl⟩, PySem.F.args_list_init_2 _ _, ?_⟩
  have fr : H s.heap.objs.size = none := I.hok.fresh (Nat.le_refl _)
  have hsp := hq _ fr
  have young : X.s_0.heap.objs.size ≤ s.heap.objs.size := I.sz
  have I1 : Inv X pins σ (upd H s.heap.objs.size (.lst [])) { s with heap := s.heap.push { cls := .type "list", data := .seq #[] } } := I.lnew (its := []) (t' := s.toks) .nil (Nat.zero_le _)
  show wpAny _ _ (Builtin.List.listItems (.ref s.heap.objs.size) >>= fun old => Builtin.List.listUpdate (.ref s.heap.objs.size) (fun _ => #[]) >>= fun _ => letGo old.toList.reverse >>= fun _ => Builtin.List.listExtendWith (.ref s.heap.objs.size) (.ref a) .none) _ _ _
  refine wpAny_bind ?_
  unfold Builtin.List.listItems
  refine wpAny_bind (wpAny_seqItems hS rfl (wpAny_pure ?_))
  show wpAny _ _ (updateSeq s.heap.objs.size (fun _ => #[]) >>= fun _ => letGo (#[] : Array Value).toList.reverse >>= fun _ => Builtin.List.listExtendWith (.ref s.heap.objs.size) (.ref a) .none) _ _ _
  refine wpAny_bind (wpAny_updateSeq hS rfl ?_)
  have I2 := I1.lset (f := fun _ => #[]) (its := []) (its' := []) (ys := []) (t' := s.toks) upd_same hS rfl .nil (Nat.zero_le _)
  rw [upd_upd] at I2
  refine wpAny_bind (wpAny_letGo ?_)
  have ha2 : upd H s.heap.objs.size (.lst []) a = some (.ins C dx fs) := by rw [upd_ne (ne_of_none ha fr)]; exact ha
  have nqa : s.heap.objs.size ≠ a := (ne_of_none ha fr).symm
  have low : s.heap.objs.size < ({ s with heap := (s.heap.push { cls := .type "list", data := .seq #[] }).update s.heap.objs.size (Obj.mapSeq fun _ => #[]) } : Shared).heap.objs.size := (I2.hok _ _ upd_same).lt
  generalize hq0 : s.heap.objs.size = q at *
  generalize ({ s with heap := (s.heap.push { cls := .type "list", data := .seq #[] }).update q (Obj.mapSeq fun _ => #[]) } : Shared) = s1 at *
  generalize hH1 : upd H q (.lst []) = H1 at *
  have hq1 : H1 q = some (.lst []) := by rw [← hH1]; exact upd_same
  obtain ⟨ox, od, J⟩ := Ow.ins_at I2 ha2
  obtain ⟨m0, hF⟩ := I2.fr
  unfold Builtin.List.listExtendWith
  refine wpAny_bind (J.type.here ?_)
  have b1 : Builtin.List.listSameRef (.ref q) (.ref a) = false := by simp [Builtin.List.listSameRef, nqa]
  have b2 : (Value.ref C == Value.type "list") = false ∧ (Value.ref C == Value.type "tuple") = false := ⟨rfl, rfl⟩
  simp only [b1, b2.1, b2.2, Bool.or_false, Bool.false_eq_true, if_false]
  refine wpAny_bind (PySem.W.owit_iter hF I2.ok.mod.kin J hs hf ?_)
  have env : ∀ {s2 : Shared} {H2 : Hp}, Inv X pins σ H2 s2 → Env0 X.prog X.w X.K X.mg X.base X.A.in1.in1 X.stack s2 H2 := fun I => by
    have e := I.env0
    exact ⟨e.frames, e.mod, e.bs, e.bsz, e.funs, e.frf, e.hok, e.bare⟩
  have room0 : Room (n + 1) X.A.in1.in1 := (hr.in1.in1).mono (by omega)
  have room1 : Room n X.A.in1.in1 := room0.mono (by omega)
  refine wpAny_mono (wpAny_call (sure_at (us := [.ref a]) (ws := [.ref a]) FI room1 (env I2) I2 (.cons rfl .nil) hsp)) (fun v s3 hv => ?_) fun _ _ x => x.elim
  obtain ⟨v', H3, I3, rv3, it, t, zs, rfl, hit, qlt, ht, few, hq3, ha3, hsp2⟩ := hv
  cases (show v = Value.ref it from rv3)
  have st3 : s3.heap.IsTupleIter it t 0 := (I3.hok it _ hit).1
  unfold PySem.W.OwitIt
  refine wpAny_specialOf (name := Str.ofString "__next__") st3.typeIs PySem.F.slot_tuple_iterator_next.lookup ?_
  refine wpAny_bind (wpAny_holding ?_)
  unfold Builtin.List.listLengthHint
  obtain ⟨ox3, od3, J3⟩ := Ow.ins_at I3 ha3
  obtain ⟨m3, hF3⟩ := I3.fr
  refine wpAny_bind (wpAny_bind (J3.type.here ((PySem.W.looks_findIn I3.kIn hl).here ?_)))
  refine PySem.W.KFB.if_not rfl ?_
  refine wp_if_pos rfl (wpAny_bind (wpAny_rule (wpAny_bind (wpAny_attempt ?_))))
  refine PySem.W.len_K hF3 I3.ok.mod.kin J3 hl hlf (wpAny_mono (wpAny_call (sure_at (us := [.ref a]) (ws := [.ref a]) FL (room0.in1) (env I3).in1 I3 (.cons rfl .nil) hsp2)) (fun w s4 z => ?_) fun _ _ x => x.elim)
  obtain ⟨z', H4, I4, rz, i, rfl, h0, h1, rfl, qz⟩ := z
  obtain ⟨tk, e⟩ := (show ∃ tk, w = Value.int i tk from rz)
  cases e
  refine ⟨⟨h0, by omega⟩, ?_⟩
  dsimp only
  refine wpAny_bind (wpAny_of_eq (a := some i) rfl ?_)
  have sl := sizeLine_eq
  refine wp_if_neg (by unfold Builtin.List.listTooLong; rw [decide_eq_true_eq]; omega) (wpAny_pure ?_)
  have I5 := inv_drop (I4.tok (s4.toks + 1)) hit
  have fp : FpOk X pins (dropH H4 it) it := inv_fp I4 hit (Nat.le_trans young (Nat.le_of_lt qlt))
  have nqi : q ≠ it := Nat.ne_of_lt qlt
  have hq5 : dropH H4 it q = some (.lst []) := (dropH_ne nqi).trans hq3
  have ht5 : SqT X.K (dropH H4 it) t zs := by
    rcases ht with (w1 | ⟨o, w2⟩) | w3
    · refine .inl (.inl ((dropH_ne fun c => ?_).trans w1))
      rw [c, hit] at w1
      cases w1
    · refine .inl (.inr ⟨o, (dropH_ne fun c => ?_).trans w2⟩)
      rw [c, hit] at w2
      cases w2
    · exact .inr w3
  have st5 : s4.heap.IsTupleIter it t 0 := (I4.hok it _ hit).1
  have hh : X.A.in1.in1.handled = none := by simp [I.ok.hd hc]
  have go : ∀ s6 : Shared, Inv X pins σ (dropH H4 it) s6 → s6.heap.IsTupleIter it t 0 → codeAny (model X.prog X.w) X.A.in1 (.builtin "list.extend.loop" ⟨[.ref q, .ref it, .none], []⟩) (wants (fun r s₂ => r = .none ∧ EP X pins σ Q (.ref q) s₂) X.xe) s6 := fun s6 I6 st6 =>
    fill (zs := zs) hh few (zs.length - 0) 0 _ s6 rfl (Nat.zero_le _) I6 hq5 fp st6 ht5 fun s7 I7 => ⟨rfl, ⟨.ref q, _, I7, rfl, qz⟩⟩
  refine wpAny_ite_split (fun _ => ?_) fun _ => wpAny_pure ⟨plainId_quiet PySem.F.plain_extend_loop _, go _ I5 st5⟩
  refine wpAny_bind (wpAny_rule (wpAny_bind ?_))
  obtain ⟨z5, its5, k5, r5, l5, e5⟩ := I5.lstM hq5
  cases r5
  show wpAny _ _ (updateSeq q (·.push Value.none) >>= fun _ => updateSeq q (·.pop)) _ _ _
  refine wpAny_bind (wpAny_updateSeq e5 rfl ?_)
  have I6 := I5.lset (f := (·.push Value.none)) (its' := [Value.none]) (ys := [.non]) (t' := s4.toks + 1) hq5 e5 (by simp) (.cons rfl .nil) (by rw [List.length_singleton, sl]; decide)
  obtain ⟨z6, its6, k6, r6, l6, e6⟩ := I6.lstM upd_same
  obtain ⟨u6, rfl, ru6⟩ := r6.one
  refine wpAny_updateSeq e6 rfl ?_ (by show 1 ≤ sizeLine; rw [sl]; decide) (by show 0 ≤ sizeLine + 1; exact Nat.zero_le _)
  have I7 := I6.lset (f := (·.pop)) (its := [u6]) (its' := []) (ys := []) (t' := s4.toks + 1) upd_same e6 (by rfl) .nil (Nat.zero_le _)
  rw [upd_upd, show upd (dropH H4 it) q (.lst []) = dropH H4 it from funext fun b => by
    by_cases c : b = q
    · rw [c, upd_same, hq5]
    · rw [upd_ne c]] at I7
  refine wpAny_pure ⟨plainId_quiet PySem.F.plain_extend_loop _, go _ I7 (ti_at st5 fun o e => ?_)⟩
  exact (Heap.get?_update_other _ _ nqi).trans ((Heap.get?_update_other _ _ nqi).trans e)
end
end Li
/-! for .. in x, x an instance whose __iter__ gives iter(tuple). -/
namespace Li
open PySem PySem.Spec PyProof.Rows L2 ItX
section
variable {X : Cx} {C fi : Addr} {spI : Nat → Sp} {EI : XK} {n : Nat} {tg : Expr}
/-- a def whose promise knows how many objects there are when it is called -/
def FnA (P : Program) (w : World) (K : PySem.W.Frag) (mg : Str → Option Value) (base : Heap) (n : Nat) (g : Addr) (sp : Nat → Sp) : Prop :=
  ∀ (A : Around) (outer : List Env) (s : Shared) (H : Hp) (us : List Value) (vs : List V) (Q : VK) (E : XK), Room n A → Env0 P w K mg base A outer s H → Vals vs us → sp s.heap.objs.size vs H Q E →
    codeAny (model P w) A (.call (.ref g) ⟨us, []⟩) (CR CX0 outer P w H s Q E) s
theorem fnA_of {P : Program} {w : World} {K : PySem.W.Frag} {mg : Str → Option Value} {base : Heap} {x qual : Str} {st : Stmt} {g : Addr} {fd : FuncData} {N ps : List Str} {k : Nat} {sp : Nat → Sp} (F : Fun K x qual st g fd) (S : FnScope N ps (defScope st)) (B : Binds K fd ps [])
    (len : ∀ n vs H Q E, sp n vs H Q E → vs.length = ps.length)
    (body : ∀ (cdv : Value) (A : Around) (outer : List Env) (s : Shared) (H : Hp) (vs : List V) (Q : VK) (E : XK), Room k (A.deeper (envOfC qual (defScope st) s.heap.objs.size g cdv)) → sp s.heap.objs.size vs H Q E →
      ∃ t, PSs (cxOf CX0 P w K mg base N qual (defScope st) g cdv A outer s H E) (defBody st) t ∧ t { nx := fun _ H' => Q .non H', rt := Q } (start N vs) H) : FnA P w K mg base (k + 1) g sp := by
  obtain ⟨oc, od, kV, doc, pm, an, cdv, ct, osl, rfl, lk, hcd⟩ := F.ex
  intro A outer s H us vs Q E hr e0 r hsp
  have hl := len _ _ _ _ _ hsp
  have KX : K.In s.heap := e0.mod.kin.keeps fun b o e => (e0.bs b o e).1
  have bd := B s us KX (by rw [List.append_nil, ← r.length]; exact hl)
  rw [List.append_nil] at bd
  refine codeAny_call_function hr.depth (KX _ _ lk) rfl S.co S.gen rfl (PySem.W.codeRec_of KX hcd) (bd _ _ _ _ ?_)
  refine wpAny_newFunctionEnv_cells S.kind (fun y hy => ?_) fun env he s1 fresh => ?_
  · rcases S.par y.1 (List.of_mem_zip (show (y.1, y.2) ∈ ps.zip us from hy)).1 with q | q
    · exact .inl q
    · exact .inr ⟨q, PySem.W.cellsFrom_some _ _ _ (.inl q)⟩
  subst he
  refine ⟨(e0.mod.nolimit.keeps fun b o e => (e0.bs b o e).1).keeps fresh.toInCall.keep, codeAny_func ?_⟩
  obtain ⟨t, ht, hq⟩ := body _ A outer s H vs Q E (hr.deeper _) hsp
  refine wpAny_mono (ht.run [] s1 (start N vs) H _ (inv_start S hr.hd e0 hl r fresh) hq) (fun fl s' hs => ?_) fun e s' hs => hs
  match fl, hs with
  | .ret _, ⟨v, _, H', J, rv, q⟩ => exact ⟨v, H', J.os, J.bare, J.base, J.hok, rv, q⟩
  | .next, ⟨_, H', J, q⟩ => exact ⟨V.non, H', J.os, J.bare, J.base, J.hok, rfl, q⟩
  | .brk, ⟨_, _, _, q⟩ => exact q.elim
  | .cont, ⟨_, _, _, q⟩ => exact q.elim
/-- iter(t), n: how many objects there were -/
def rIterN (K : PySem.W.Frag) (n : Nat) : List V → Hp → VK → Prop := fun xs H Q => ∃ (t : Addr) (zs : List V), xs = [.ref t] ∧ SqT K H t zs ∧ ∀ it, H it = none → n ≤ it → Q (.ref it) (upd H it (TiO t it))
theorem call_iterN {X : Cx} : CallR X (.builtin "iter") (rIterN X.K X.s_0.heap.objs.size) := by
  intro pins s σ H xs us Q I r h
  obtain ⟨t, zs, rfl, hq, q⟩ := h
  obtain ⟨u, rfl, ru⟩ := r.one
  cases (show u = Value.ref t from ru)
  obtain ⟨its, rv, pl, hz⟩ := I.tuple hq
  refine Calls.call_function_entry (by decide +kernel) (by decide +kernel) PySem.W.kdk_entry_iter (PySem.W.kdk_args_iter _) ?_
  unfold Builtin.«iter»
  refine wpAny_bind (m := someArgs "iter" 1 2 _) (wpAny_of_eq (a := [Value.ref t]) (by first | rfl | kernel_rfl!) ?_)
  show wpAny _ _ (pyIter (.ref t) >>= _) _ _ _
  refine wpAny_bind (wpAny_pyIter_tuple (items := its.toArray) pl (wpAny_pure ⟨_, rfl, ?_⟩))
  exact ⟨.ref s.heap.objs.size, _, I.laid (t' := s.toks) (fun b u e => Heap.get?_push_of_some _ e) (Nat.le_refl _) (ti_ok ⟨_, Heap.get?_push_size _ rfl, rfl, rfl⟩), rfl, q _ (I.hok.fresh (Nat.le_refl _)) I.sz⟩
/-- such a def, called -/
theorem sure_A {X : Cx} {n : Nat} {A : Around} {Q : VK} {E : XK} {g : Addr} {sp : Nat → Sp} {us : List Value} {ws : List V} {pins : List (Addr × Obj)} {σ : L2.St} {H : Hp} {s : Shared} (F : FnA X.prog X.w X.K X.mg X.base n g sp) (hr : Room n A) (e0 : Env0 X.prog X.w X.K X.mg X.base A X.stack s H) (I : Inv X pins σ H s)
    (r : Vals ws us) (h : sp s.heap.objs.size ws H Q E) : codeAny (model X.prog X.w) A (.call (.ref g) ⟨us, []⟩) (fun r s' => match r with | .ok (.ret v) => EP X pins σ Q v s' | .ok _ => False | .error _ => False) s := by
  refine codeAny_mono (F A X.stack s H us ws Q E hr e0 r h) fun r s' z => ?_
  match r, z with
  | .ok (.ret _), z => exact I.after z
  | .ok .next, z => exact z.elim
  | .ok .brk, z => exact z.elim
  | .ok .cont, z => exact z.elim
  | .error _, z => exact z.elim
def iOwnT (K : PySem.W.Frag) (C : Addr) (spI : Nat → Sp) (EI : XK) (tl : TE) : TI := fun σ H R => tl σ H fun x H1 => ∃ a dx fs, x = .ref a ∧ H1 a = some (.ins C dx fs) ∧
  ∀ m, spI m [.ref a] H1 (fun v H2 => ∃ it t zs, v = .ref it ∧ m ≤ it ∧ H2 it = some (TiO t it) ∧ SqT K H2 t zs ∧ R (Itt K t) (dropH H2 it)) EI
theorem pi_ownT (hs : PySem.W.findIn X.K (.ref C) "__iter__" = some (some (.ref fi))) (hf : PySem.W.isFn X.K (.ref fi) = true) (FI : FnA X.prog X.w X.K X.mg X.base n fi spI) (hr : Room n X.A) {l : Expr} {tl : TE} (hl : PE X l tl) : PI X tg l (iOwnT X.K C spI EI tl) := by
  refine ⟨fun pins s σ H R I h => ?_⟩
  refine thn (hl.run pins s σ H _ I h) fun v s1 ⟨x, H1, I1, r1, q1⟩ => ?_
  obtain ⟨a, dx, fs, e, ha, hsp⟩ := q1
  subst e
  cases r1
  obtain ⟨ox, od, J⟩ := Ow.ins_at I1 ha
  obtain ⟨m0, hF⟩ := I1.fr
  refine PySem.W.owit_iter hF I1.ok.mod.kin J hs hf ?_
  refine wpAny_mono (wpAny_call (sure_A (us := [.ref a]) (ws := [.ref a]) FI hr I1.env0 I1 (.cons rfl .nil) (hsp _))) (fun v s3 hv => ?_) fun _ _ x => x.elim
  obtain ⟨v', H3, I3, rv3, it, t, zs, rfl, yg, hit, ht, q⟩ := hv
  cases (show v = Value.ref it from rv3)
  have st3 : s3.heap.IsTupleIter it t 0 := (I3.hok it _ hit).1
  unfold PySem.W.OwitIt
  refine wpAny_specialOf (name := Str.ofString "__next__") st3.typeIs PySem.F.slot_tuple_iterator_next.lookup ?_
  refine ⟨it, [it], _, _, dropH H3 it, rfl, inv_drop I3 hit, turn_tuple t it, st3, fun b hb => ?_, q⟩
  have e : b = it := by simpa using hb
  rw [e]
  exact inv_fp I3 hit (Nat.le_trans I1.sz yg)
variable {CX : CXT} {k : Nat} {f : Addr} {fd : FuncData} {ps : List Str} {sp : Sp} {e : Expr} {es : List Expr} {t : TA} {x : Str} {p pos : Pos} {ds : List Value} {dvs : List V}
/-- pe_callS of a def with defaults -/
theorem pe_callSD {E : L2.St → XK} (F : FnOk X.prog X.w X.K X.mg X.base CX k f fd ps sp) (hr : Room k X.A) (hg : Gl X x) (hm : X.mg x = some (.ref f)) (hk : PySem.W.keepIn X.K (.ref f) = true) (hb : Binds X.K fd ps ds) (hd : Vals dvs ds) (hx : ∀ σ, PassesAt CX X σ (E σ))
    (ha : PA X (e :: es) t) (hdb : (x == ("__debug__" : Str)) = false := by decide) (he : starEach (e :: es) X.env = (false, eval e X.env) :: starEach es X.env := by rfl) (hpl : (backTo pos (starEach es X.env)).any (·.1) = false := by rfl) :
    PE X (.Call (.Name x p) (e :: es) [] pos) (tCallS (fun vs H Q E => sp (vs ++ dvs) H Q E) E t) := by
  refine ⟨fun pins s σ H Q I h => ?_⟩
  refine wpAny_Call_Name_kw (ld_glob I hg hm ?_ hdb)
  refine PySem.W.callWith_K (h₀ := X.base) I.ok.mod.kin hk (thn (ha.run pos pins s σ H _ I h) fun us s1 ⟨vs, H1, I1, r, q⟩ => ⟨I1.kIn, ?_⟩) he hpl
  refine wpAny_call (codeAny_mono (F.raw hb hd X.A X.stack s1 H1 us vs Q (E σ) hr I1.env0 r q) fun r s' hq => ?_)
  cases r with
  | error e => exact hx σ pins H1 s1 e s' I1 hq
  | ok fl =>
    cases fl with
    | ret u => exact I1.after hq
    | next => exact False.elim hq
    | brk => exact False.elim hq
    | cont => exact False.elim hq
end
end Li

/-! sorted(set of ints), any number of members. -/
namespace Sa
open PySem PySem.Spec PyProof.Rows L2
section
variable {P : Program} {w : World} {A : Around} {E : Value → Shared → Prop} {s : Shared} {a : Addr}
theorem sorted_setAny {S : Int → Bool} {n : Nat} {Q : Value → Shared → Prop} (R : SetR w s.heap a S n) (hh : A.handled = none) (hn4 : n ≤ 4000)
    (hQ : ∀ s' p (out : Array Value) (c : Nat) (ns : List Int), (∀ b o, s.heap.get? b = some o → s'.heap.get? b = some o) → s'.gens = s.gens → s'.os = s.os → s.heap.objs.size ≤ p →
      s'.heap.get? p = some (seqObj "list" out c) → IntsAre out.toList ns → ns.Pairwise (· < ·) → (∀ k, k ∈ ns ↔ S k = true) → ns.length = n → Q (.ref p) s') :
    wpAny (model P w) A (call (.builtin "sorted") [.ref a]) Q E s := by
  obtain ⟨o, es, ep, t, ho, hex, hd, g, nd, hm, hb, hf, hn, hr, hl⟩ := R
  refine Calls.call_function_entry kind_sorted plain_sorted entry_sorted (args_sorted1 _) ?_
  unfold Builtin.«sorted»
  refine wpAny_bind (m := checkCount "sorted" 1 1 _) (wpAny_pure ?_)
  refine wpAny_bind (collect_set (A := A.in1) hh ⟨o, ho, hex.1, hd⟩ hf hb hr hl fun s1 vs k1 hz g1 o1 pm => ?_)
  have hvl : vs.length = n := by rw [pm.length_eq, List.length_map, Array.length_toList]; exact hn
  have hI : IntsAre vs (vs.map Builtin.Re.reRawOf) := ints_of vs fun v hv => by
    obtain ⟨e, he, q⟩ := List.mem_map.mp (pm.mem_iff.mp hv)
    obtain ⟨k, tk, h1, _⟩ := g e he
    exact ⟨k, tk, by rw [← q]; exact h1⟩
  have pk : (vs.map Builtin.Re.reRawOf).Perm (es.toList.map keyOf) := by
    have q := pm.map Builtin.Re.reRawOf
    rw [List.map_map] at q
    exact q
  refine wpAny_bind (wpAny_newList ?_ (by rw [hvl, sizeLine_eq]; omega))
  have hoL : (s1.heap.push (seqObj "list" vs.toArray 0)).get? s1.heap.objs.size = some (seqObj "list" vs.toArray 0) := Heap.get?_push_size _ rfl
  refine wpAny_bind (wpAny_holding (wpAny_call_entry slot_list_sort ⟨_, hoL, rfl⟩ entry_list_sort (list_sort_treeAny hoL hI (by rw [hvl, sizeLine_eq]; omega) fun out ns' a1 a2 a3 => ⟨_, rfl, ?_⟩) (args_list_sort _)))
  obtain ⟨c, hc⟩ := sortedHeap_at (vs := vs) (out := out) hoL
  have pn : ns'.Perm (es.toList.map keyOf) := a2.trans pk
  refine wpAny_pure ⟨_, rfl, hQ _ s1.heap.objs.size out c ns' (fun b u e => ?_) g1 o1 hz hc a1 (lt_of_le_nodup ns' a3 (pn.nodup_iff.mpr nd)) (fun k => by rw [pn.mem_iff, ← hm k]) ?_⟩
  · have q := k1 b u e
    have hlt := Heap.lt_size q
    show (sortedHeap (s1.heap.push (seqObj "list" vs.toArray 0)) s1.heap.objs.size vs out).get? b = some u
    rw [sortedHeap_old (Nat.ne_of_lt hlt) (by rw [size_push']; exact Nat.lt_succ_of_lt hlt)]
    exact Heap.get?_push_of_some _ q
  · rw [pn.length_eq, List.length_map, Array.length_toList]; exact hn
end
section
variable {X : Cx}
def rSortedSetA (w : World) : List V → Hp → VK → Prop := fun vs H Q => ∃ (a : Addr) (S : Int → Bool) (n : Nat), vs = [V.ref a] ∧ H a = some (SetO w a S n) ∧ n ≤ 4000 ∧
  ∀ (ns : List Int) (p : Addr), ns.Pairwise (· < ·) → (∀ k : Int, k ∈ ns ↔ S k = true) → ns.length = n → H p = none → Q (.ref p) (upd H p (.lst (ns.map V.int)))
theorem cr_sortedSetA (hc : X.calm = true) : CallR X (.builtin "sorted") (rSortedSetA X.w) := by
  intro pins s σ H vs us Q I r h
  obtain ⟨a, S, n, rfl, ha, h64, q⟩ := h
  have R := setO_get I ha
  rw [Vals.ref1 r]
  refine sorted_setAny R (I.ok.hd hc) h64 fun s' p out c ns k g o hp hg hi hs hm hl => ?_
  have hlen : (ns.map V.int).length ≤ sizeLine := by rw [List.length_map, hl, sizeLine_eq]; omega
  have hn : H p = none := I.hok.fresh hp
  have J : Inv X pins σ (upd H p (.lst (ns.map V.int))) { s with heap := s'.heap, gens := s'.gens, drawn := s'.drawn, toks := s'.toks } :=
    I.call (ch := []) (Un.laid k hp hn) (I.hok.laid k hp ⟨hlen, out.toList, c, vals_of_ints hi, hg⟩) (by rw [g]; exact I.bare) (fun _ z => nomatch z)
  have e : s' = { s with heap := s'.heap, gens := s'.gens, drawn := s'.drawn, toks := s'.toks } := by
    cases s'
    cases s
    cases o
    rfl
  rw [e]
  exact ⟨.ref p, _, J, rfl, q ns p hs hm hl hn⟩
end
end Sa

/-! x op y by the own def of x's class, y of a built-in type; a call that may raise in a try whose suite asks only its own name. -/
namespace Po
open PySem PySem.Spec PyProof.Rows L2
theorem passL {X : Cx} {W : WX} (n : Nat) (hn : X.N.length = n) (tk : Takes X W) : Passes (L2.CX X.prog X.w) X (fun cls d H => ∀ σ : L2.St, σ.length = n → W cls d σ H) :=
  fun _ σ _ _ e s' I c => tk e s' (XE.of_call I (fun _ _ _ h => h σ (I.len.trans hn)) c)
/-- what is asked of the type T on the right -/
structure RT (K : PySem.W.Frag) (op : Operator) (C : Addr) (T : String) : Prop where
  ex : ∃ fo ro : Option Value, PySem.W.findIn K (.type T) (PySem.dunder op.info.2) = some fo ∧ PySem.W.findIn K (.type T) (dunderR op.info.2) = some ro
  sub : PySem.W.subIn K (.type T) (.ref C) = some false
/-- and of the class on the left -/
structure LT (K : PySem.W.Frag) (op : Operator) (C : Addr) : Prop where
  rc : ∃ rc : Option Value, PySem.W.findIn K (.ref C) (dunderR op.info.2) = some rc ∧ (rc = none ∨ ∃ g : Addr, rc = some (.ref g))
  sf : PySem.W.selfFirst K C = true
section
open PySem.W
variable {prog : Program} {w : World} {A : Around} {E : Value → Shared → Prop} {s : Shared} {K : Frag} {x C L f : Addr} {h₀ : Heap} {m : Str → Option Value} {ox : Obj} {od : Option Obj} {T : String}
theorem bin_at {op : Operator} {b : Value} {Q : Value → Shared → Prop} (F : Fr h₀ L s.heap m) (kin : K.In h₀) (I : InstAt s.heap x ox C od) (hb : Looks (model prog w) s.heap (typeOf b) (.type T)) (lt : LT K op C)
    (own : findIn K (.ref C) (PySem.dunder op.info.2) = some (some (.ref f))) (fn : isFn K (.ref f) = true) (rt : RT K op C T)
    (go : wpAny (model prog w) A (call (.ref f) [.ref x, b]) (PySem.W.CmpBack Q) E s) : wpAny (model prog w) A (binaryOp op (.ref x) b) Q E s := by
  have kn := kin.keeps F.keep
  obtain ⟨⟨fo, ro, t1, t2⟩, apart⟩ := rt
  obtain ⟨⟨rc, back, bk⟩, first⟩ := lt
  obtain ⟨cd, rest, ecd, emro⟩ := ksp_first first
  rcases hop : op.info with ⟨sg, nm⟩
  rw [hop] at own back t1 t2
  dsimp only at own back t1 t2
  have tried := ksp_try kn I own fn go
  obtain ⟨hp, gn, dr, tks, oss⟩ := s
  have k1 : Looks (model prog w) hp (typeOf (Value.ref x)) (Value.ref C) := I.type
  have k2 : Looks (model prog w) hp (typeOf b) (Value.type T) := hb
  have k3 : Looks (model prog w) hp (fillsNumberSlot (Value.ref C) nm) true := fills_K kn ecd emro own
  have k4 := ksp_fillsT (M := model prog w) kn t1 t2
  have k5 : Looks (model prog w) hp (isSubtype (Value.type T) (Value.ref C)) false := looks_subIn kn apart
  have k6 : Looks (model prog w) hp (numberSlotInPython (Value.ref C) nm) true := ksp_inPy kn own back bk
  have k7 : Looks (model prog w) hp (numberSlotInPython (Value.type T) nm) false := Looks.of_pure rfl
  have k8 : Looks (model prog w) hp (typeLookup (Value.type T) (dunderR nm)) ro := looks_findIn kn t2
  revert k4
  generalize ((fo.isSome && !isSeqSlot fo) || (ro.isSome && !isSeqSlot ro)) = rgt
  intro k4
  have apart2 : (Value.ref C == Value.type T) = false := by
    cases q : (Value.ref C == Value.type T) with
    | false => rfl
    | true => cases beq_iff_eq.mp q
  simp only [binaryOp, hop]
  apply wpAny_holding
  apply wpAny_bind
  unfold binaryOp1
  refine wpAny_bind (k1.at ?_)
  refine wpAny_bind (k2.at ?_)
  refine wpAny_bind (k3.at ?_)
  simp only [apart2, Bool.false_eq_true, if_false]
  cases rgt <;>
    (ksp_lk
     refine wpAny_mono tried (fun r s' z => ?_) fun _ _ e => e
     obtain ⟨v, rfl, hq⟩ := z
     ksp_lk
     exact hq)
end
section
variable {X : Cx} {CX : CXT} {C g : Addr} {n : Nat} {sp : Sp} {E : XK}
/-- x op y by the own def of x's class at C; y of a built-in type -/
def rBinT (K : PySem.W.Frag) (op : Operator) (C : Addr) (sp : Sp) (E : XK) : R2 := fun x y H Q => ∃ a dx fs T, x = .ref a ∧ H a = some (.ins C dx fs) ∧ TyX K H y (.type T) ∧ RT K op C T ∧ sp [x, y] H Q E
theorem op_binI {op : Operator} (lt : LT X.K op C) (hs : PySem.W.findIn X.K (.ref C) (PySem.dunder op.info.2) = some (some (.ref g))) (hf : PySem.W.isFn X.K (.ref g) = true) (F : FnR X.prog X.w X.K X.mg X.base CX n g sp)
    (hr : Room n X.A) (hx : Passes CX X E) : OpR X (binaryOp op) (rBinT X.K op C sp E) := by
  intro pins s σ H x y v u Q I rx ry h
  obtain ⟨a, dx, fs, T, rfl, ha, ty, rt, q⟩ := h
  cases (show v = Value.ref a from rx)
  obtain ⟨ox, od, J⟩ := Ow.ins_at I ha
  obtain ⟨P, k, hp, _⟩ := kit_of I ry ty
  obtain ⟨m, hF⟩ := I.fr
  refine bin_at hF I.ok.mod.kin J (k.ty _ _ I.kIn hp) lt hs hf rt ?_
  refine wpAny_mono (wpAny_call (run_fnR (us := [.ref a, u]) (vs := [.ref a, y]) F hr hx I (.cons rfl (.cons ry .nil)) q)) (fun w s' z => ?_) fun _ _ x => x
  obtain ⟨z', H', I', rz, qz⟩ := z
  exact SlX.cmpback rz ⟨z', H', I', rz, qz⟩
end
end Po

/-! Texts of two signs: seekers (s) and openers (o); zones, walks from an end. -/
namespace Rm
open PySem L2 TL
def sg (b : Bool) : Nat := if b then 115 else 111
def rgS (l : List Bool) : Str := ⟨(l.map sg).toArray⟩
theorem rgS_cps (l : List Bool) : (rgS l).cps.toList = l.map sg := rfl
theorem rgS_len (l : List Bool) : (rgS l).length = l.length := by
  show (l.map sg).toArray.size = _
  simp
theorem rgS_app (a b : List Bool) : rgS a ++ rgS b = rgS (a ++ b) := by
  refine PyProof.Rows.ext_toList ?_
  show ((rgS a).cps ++ (rgS b).cps).toList = _
  rw [Array.toList_append, rgS_cps, rgS_cps, rgS_cps, List.map_append]
theorem sg_inj {a b : Bool} (h : sg a = sg b) : a = b := by cases a <;> cases b <;> first | rfl | cases h
theorem map_inj : ∀ {a b : List Bool}, a.map sg = b.map sg → a = b
  | [], [], _ => rfl
  | [], _ :: _, h => by cases h
  | _ :: _, [], h => by cases h
  | x :: a, y :: b, h => by
    rw [List.map_cons, List.map_cons] at h
    injection h with h1 h2
    rw [sg_inj h1, map_inj h2]
theorem rgS_inj {a b : List Bool} (h : rgS a = rgS b) : a = b := map_inj (by rw [← rgS_cps, h, rgS_cps])
theorem rgS_nil : rgS [] = ("" : Str) := by decide +kernel
theorem rgS_s : rgS [true] = ("s" : Str) := by decide +kernel
theorem rgS_o : rgS [false] = ("o" : Str) := by decide +kernel
theorem rgS_take (l : List Bool) (k : Nat) : cutS (rgS l) none (some (k : Int)) = rgS (l.take k) := by
  refine PyProof.Rows.ext_toList ?_
  show ((l.map sg).drop 0).take (HT.sIx (rgS l).length (rgS l).length (some (k : Int)) - 0) = (l.take k).map sg
  rw [rgS_len, HT.sIx_nat, List.drop_zero, Nat.sub_zero, ← List.map_take]
  congr 1
  rw [List.take_eq_take_iff]
  omega
theorem rgS_drop (l : List Bool) (k : Nat) : cutS (rgS l) (some (k : Int)) none = rgS (l.drop k) := by
  refine PyProof.Rows.ext_toList ?_
  show ((l.map sg).drop (HT.sIx (rgS l).length 0 (some (k : Int)))).take ((rgS l).length - HT.sIx (rgS l).length 0 (some (k : Int))) = (l.drop k).map sg
  rw [rgS_len, HT.sIx_nat, ← List.map_drop, ← List.map_take]
  congr 1
  by_cases c : k ≤ l.length
  · rw [Nat.min_eq_left c, List.take_of_length_le (by rw [List.length_drop]; omega)]
  · rw [Nat.min_eq_right (by omega), List.drop_of_length_le (by omega : l.length ≤ k), List.drop_length, List.take_nil]
theorem cnt_map (b : Bool) : ∀ l : List Bool, PyProof.Rows.cnt (sg b) (l.map sg) = ((l.count b : Nat) : Int)
  | [] => rfl
  | x :: l => by
    rw [List.map_cons, PyProof.Rows.cnt_cons, cnt_map b l, List.count_cons]
    by_cases e : x = b
    · subst e
      simp
      omega
    · have e2 : ¬ sg x = sg b := fun z => e (sg_inj z)
      simp [e, e2]
theorem count_s (l : List Bool) : Txt.count (rgS l) "s" = ((l.count true : Nat) : Int) := (PyProof.Rows.count_cnt _ 115).trans (cnt_map true l)
theorem count_o (l : List Bool) : Txt.count (rgS l) "o" = ((l.count false : Nat) : Int) := (PyProof.Rows.count_cnt _ 111).trans (cnt_map false l)
theorem mem_s (l : List Bool) : (115 ∈ (rgS l).cps.toList) ↔ true ∈ l := by
  rw [rgS_cps, List.mem_map]
  exact ⟨fun ⟨x, m, e⟩ => (sg_inj (b := true) e) ▸ m, fun m => ⟨true, m, rfl⟩⟩
/-- a ring's text -/
structure Ri (l : List Bool) : Prop where
  len : l.length ≤ 10
  has : true ∈ l
/-- what a text must be -/
def IsRing (t : Str) : Prop := t.length ≤ 10 ∧ 115 ∈ t.cps.toList ∧ ∀ c ∈ t.cps.toList, c = 115 ∨ c = 111
theorem ring_iff (l : List Bool) : IsRing (rgS l) ↔ Ri l := by
  constructor
  · rintro ⟨a, b, _⟩
    rw [rgS_len] at a
    exact ⟨a, (mem_s l).mp b⟩
  · rintro ⟨a, b⟩
    refine ⟨by rw [rgS_len]; exact a, (mem_s l).mpr b, fun c m => ?_⟩
    rw [rgS_cps] at m
    obtain ⟨x, _, rfl⟩ := List.mem_map.mp m
    cases x
    · exact .inr rfl
    · exact .inl rfl
/-- the lengths of the groups between openers -/
def grp : List Bool → List Nat
  | [] => [0]
  | false :: l => 0 :: grp l
  | true :: l => match grp l with
    | [] => [1]
    | g :: r => (g + 1) :: r
theorem grp_ne : ∀ l, grp l ≠ []
  | [] => by simp [grp]
  | false :: l => by simp [grp]
  | true :: l => by
    have := grp_ne l
    unfold grp
    cases e : grp l with
    | nil => simp
    | cons g r => simp
theorem grp_t {l : List Bool} {g : Nat} {r : List Nat} (e : grp l = g :: r) : grp (true :: l) = (g + 1) :: r := by
  show (match grp l with | [] => [1] | g :: r => (g + 1) :: r) = _
  rw [e]
theorem grp_len : ∀ l : List Bool, (grp l).length = l.count false + 1
  | [] => rfl
  | false :: l => by show (0 :: grp l).length = _; rw [List.length_cons, grp_len l]; simp
  | true :: l => by
    obtain ⟨g, r, e⟩ := List.exists_cons_of_ne_nil (grp_ne l)
    have ih := grp_len l
    rw [grp_t e]
    rw [e] at ih
    simp only [List.length_cons] at ih ⊢
    rw [ih]
    simp
def sS (n : Nat) : Str := rgS (List.replicate n true)
theorem jl : ∀ (l : List Bool), tl (rgS l) = joinL [111] ((grp l).map fun n => tl (sS n))
  | [] => by decide +kernel
  | false :: l => by
    obtain ⟨g, r, e⟩ := List.exists_cons_of_ne_nil (grp_ne l)
    have ih := jl l
    show (111 :: l.map sg) = joinL [111] ((0 :: grp l).map _)
    rw [e] at ih ⊢
    show _ = [] ++ ([111] ++ joinL [111] ((g :: r).map fun n => tl (sS n)))
    rw [← ih]
    rfl
  | true :: l => by
    obtain ⟨g, r, e⟩ := List.exists_cons_of_ne_nil (grp_ne l)
    have ih := jl l
    rw [grp_t e]
    show (115 :: l.map sg) = _
    have ih : l.map sg = joinL [111] ((grp l).map fun n => tl (sS n)) := ih
    rw [ih, e]
    cases r with
    | nil => rfl
    | cons g2 r => rfl
theorem split_o (l : List Bool) : Txt.split (rgS l) "o" = (grp l).map sS := by
  have e : rgS l = Txt.join "o" ((grp l).map sS) := by
    refine ext_tl ?_
    rw [join_eq, tl_join, jl, List.map_map]
    rfl
  rw [e]
  refine split_join (s := 111) (S := []) (by decide +kernel) (by decide +kernel) (fun z => grp_ne l (List.map_eq_nil_iff.mp z)) fun p hp h => ?_
  obtain ⟨n, _, rfl⟩ := List.mem_map.mp hp
  have h : 111 ∈ (List.replicate n true).map sg := h
  obtain ⟨x, m, e⟩ := List.mem_map.mp h
  rw [(List.mem_replicate.mp m).2] at e
  exact absurd e (by decide)
theorem sS_len (n : Nat) : (sS n).length = n := by
  unfold sS
  rw [rgS_len, List.length_replicate]
/-- the zones: each seeker's number, group by group -/
def zn : Nat → List Nat → List (List Nat)
  | _, [] => []
  | f, g :: r => List.range' f g :: zn (f + g) r
def zones (l : List Bool) : List (List Nat) := zn 0 (grp l)
/-- each seeker's zone -/
def zs : List Bool → List Nat
  | [] => []
  | true :: l => 0 :: zs l
  | false :: l => (zs l).map (· + 1)
/-- each seeker's place -/
def sp : List Bool → List Nat
  | [] => []
  | true :: l => 0 :: (sp l).map (· + 1)
  | false :: l => (sp l).map (· + 1)
def zone (l : List Bool) (k : Nat) : Nat := (l.take k).count false
def c (l : List Bool) (k : Nat) : Nat := (l.take k).count true
theorem zs_sp : ∀ l, zs l = (sp l).map (zone l)
  | [] => rfl
  | true :: l => by
    show 0 :: zs l = (0 :: (sp l).map (· + 1)).map _
    rw [zs_sp l, List.map_cons, List.map_map]
    congr 1
  | false :: l => by
    show (zs l).map _ = ((sp l).map (· + 1)).map _
    rw [zs_sp l, List.map_map, List.map_map]
    refine List.map_congr_left fun k _ => ?_
    show zone l k + 1 = ((false :: l).take (k + 1)).count false
    rw [List.take_succ_cons]
    simp [zone]
theorem sp_len : ∀ l, (sp l).length = l.count true
  | [] => rfl
  | true :: l => by show (0 :: (sp l).map (· + 1)).length = _; rw [List.length_cons, List.length_map, sp_len l]; simp
  | false :: l => by show ((sp l).map (· + 1)).length = _; rw [List.length_map, sp_len l]; simp
theorem zs_len (l : List Bool) : (zs l).length = l.count true := by rw [zs_sp, List.length_map, sp_len]
/-- the places of z in a list, counted from f -/
def pos (f : Nat) : List Nat → Nat → List Nat
  | [], _ => []
  | x :: r, z => if x = z then f :: pos (f + 1) r z else pos (f + 1) r z
theorem pos_snoc (z x : Nat) : ∀ (a : List Nat) (f : Nat), pos f (a ++ [x]) z = pos f a z ++ if x = z then [f + a.length] else []
  | [], f => by show (if x = z then f :: [] else []) = [] ++ _; simp
  | y :: a, f => by
    show (if y = z then f :: pos (f + 1) (a ++ [x]) z else pos (f + 1) (a ++ [x]) z) = (if y = z then f :: pos (f + 1) a z else pos (f + 1) a z) ++ _
    rw [pos_snoc z x a (f + 1), List.length_cons, show f + 1 + a.length = f + (a.length + 1) by omega]
    by_cases h : y = z <;> simp [h]
theorem pos_map (z : Nat) : ∀ (a : List Nat) (f : Nat), pos f (a.map (· + 1)) (z + 1) = pos f a z
  | [], _ => rfl
  | y :: a, f => by
    show (if y + 1 = z + 1 then f :: pos (f + 1) (a.map _) (z + 1) else pos (f + 1) (a.map _) (z + 1)) = if y = z then f :: pos (f + 1) a z else pos (f + 1) a z
    rw [pos_map z a (f + 1)]
    by_cases h : y = z <;> simp [h]
theorem pos_map0 : ∀ (a : List Nat) (f : Nat), pos f (a.map (· + 1)) 0 = []
  | [], _ => rfl
  | y :: a, f => by
    show (if y + 1 = 0 then f :: pos (f + 1) (a.map _) 0 else pos (f + 1) (a.map _) 0) = []
    rw [pos_map0 a (f + 1), if_neg (by omega)]
theorem pos_zn : ∀ (l : List Bool) (f z : Nat), z < (grp l).length → (zn f (grp l))[z]? = some (pos f (zs l) z)
  | [], f, z, h => by
    have : z = 0 := by simpa [grp] using h
    subst this
    rfl
  | true :: l, f, z, h => by
    obtain ⟨g, r, e⟩ := List.exists_cons_of_ne_nil (grp_ne l)
    have ih := pos_zn l (f + 1) z (by rw [e]; rw [grp_t e] at h; simpa using h)
    rw [e] at ih
    rw [grp_t e]
    show (List.range' f (g + 1) :: zn (f + (g + 1)) r)[z]? = some (if 0 = z then f :: pos (f + 1) (zs l) z else pos (f + 1) (zs l) z)
    have ih : (List.range' (f + 1) g :: zn (f + 1 + g) r)[z]? = some (pos (f + 1) (zs l) z) := ih
    rw [show f + (g + 1) = f + 1 + g by omega, List.range'_succ]
    cases z with
    | zero =>
      rw [List.getElem?_cons_zero] at ih ⊢
      rw [← Option.some.inj ih]
      rfl
    | succ z =>
      rw [List.getElem?_cons_succ] at ih ⊢
      rw [ih, if_neg (by omega)]
  | false :: l, f, z, h => by
    show (List.range' f 0 :: zn (f + 0) (grp l))[z]? = some (pos f ((zs l).map (· + 1)) z)
    cases z with
    | zero => rw [pos_map0]; rfl
    | succ z =>
      rw [pos_map, List.getElem?_cons_succ, Nat.add_zero]
      refine pos_zn l f z ?_
      have h : z + 1 < (0 :: grp l).length := h
      simpa using h
theorem zn_len : ∀ (gs : List Nat) (f : Nat), (zn f gs).length = gs.length
  | [], _ => rfl
  | g :: r, f => by show (_ :: zn (f + g) r).length = _; rw [List.length_cons, zn_len r, List.length_cons]
theorem zones_eq (l : List Bool) : zones l = (List.range (l.count false + 1)).map fun z => pos 0 (zs l) z := by
  refine List.ext_getElem? fun z => ?_
  by_cases h : z < (grp l).length
  · show (zn 0 (grp l))[z]? = _
    rw [pos_zn l 0 z h, List.getElem?_map, List.getElem?_range (by rw [← grp_len]; exact h)]
    rfl
  · show (zn 0 (grp l))[z]? = _
    rw [List.getElem?_eq_none (by rw [zn_len]; omega), List.getElem?_eq_none (by rw [List.length_map, List.length_range, ← grp_len]; omega)]
theorem sp_lt : ∀ (l : List Bool) (j i : Nat) (p : Nat), (sp l)[j]? = some p → (p < i ↔ j < c l i)
  | [], j, i, p, h => by cases h
  | true :: l, j, 0, p, h => by simp [c]
  | false :: l, j, 0, p, h => by simp [c]
  | true :: l, j, i + 1, p, h => by
    have e : c (true :: l) (i + 1) = c l i + 1 := by unfold c; rw [List.take_succ_cons]; simp
    rw [e]
    have h : (0 :: (sp l).map (· + 1))[j]? = some p := h
    cases j with
    | zero =>
      have : 0 = p := Option.some.inj h
      omega
    | succ j =>
      rw [List.getElem?_cons_succ, List.getElem?_map] at h
      obtain ⟨q, hq, rfl⟩ := Option.map_eq_some_iff.mp h
      have := sp_lt l j i q hq
      omega
  | false :: l, j, i + 1, p, h => by
    have e : c (false :: l) (i + 1) = c l i := by unfold c; rw [List.take_succ_cons]; simp
    rw [e]
    have h : ((sp l).map (· + 1))[j]? = some p := h
    rw [List.getElem?_map] at h
    obtain ⟨q, hq, rfl⟩ := Option.map_eq_some_iff.mp h
    have := sp_lt l j i q hq
    omega
theorem sp_mem : ∀ (l : List Bool) (j p : Nat), (sp l)[j]? = some p → p < l.length
  | [], j, p, h => by cases h
  | true :: l, j, p, h => by
    have h : (0 :: (sp l).map (· + 1))[j]? = some p := h
    cases j with
    | zero =>
      have : 0 = p := Option.some.inj h
      simp only [List.length_cons]
      omega
    | succ j =>
      rw [List.getElem?_cons_succ, List.getElem?_map] at h
      obtain ⟨q, hq, rfl⟩ := Option.map_eq_some_iff.mp h
      have := sp_mem l j q hq
      simp only [List.length_cons]
      omega
  | false :: l, j, p, h => by
    have h : ((sp l).map (· + 1))[j]? = some p := h
    rw [List.getElem?_map] at h
    obtain ⟨q, hq, rfl⟩ := Option.map_eq_some_iff.mp h
    have := sp_mem l j q hq
    simp only [List.length_cons]
    omega
theorem c_succ {l : List Bool} {i : Nat} {b : Bool} (h : l[i]? = some b) : c l (i + 1) = c l i + if b then 1 else 0 := by
  unfold c
  rw [List.take_add_one, h, List.count_append]
  cases b <;> rfl
theorem c_all {l : List Bool} {i : Nat} (h : l.length ≤ i) : c l i = l.count true := by unfold c; rw [List.take_of_length_le h]
theorem c_le (l : List Bool) (i : Nat) : c l i ≤ l.count true := (List.take_sublist i l).count_le true
/-- the place of the j-th seeker -/
def spo (l : List Bool) (j : Nat) : Nat := (sp l)[j]?.getD 0
def pL (l : List Bool) (op : Nat → Bool) (j : Nat) : Bool := (List.range (spo l j + 1)).all op
def pR (l : List Bool) (op : Nat → Bool) (j : Nat) : Bool := (List.range' (spo l j + 1) (l.length - spo l j)).all op
def leftL (l : List Bool) (op : Nat → Bool) : List Nat := (List.range (l.count true)).filter (pL l op)
def rightL (l : List Bool) (op : Nat → Bool) : List Nat := (List.range (l.count true)).filter (pR l op)
def heardL (l : List Bool) (op : Nat → Bool) : List Nat := (List.range (l.count true)).filter fun j => pL l op j || pR l op j
theorem sp_at {l : List Bool} {j : Nat} (h : j < l.count true) : (sp l)[j]? = some (spo l j) := by
  unfold spo
  rw [List.getElem?_eq_getElem (by rw [sp_len]; exact h)]
  rfl
theorem fil_lt (n k : Nat) (h : k ≤ n) : (List.range n).filter (fun j => decide (j < k)) = List.range k := by
  induction n with
  | zero => rw [Nat.le_zero.mp h]; rfl
  | succ n ih =>
    rw [List.range_succ, List.filter_append]
    by_cases e : k ≤ n
    · rw [ih e]
      simp [show ¬ n < k by omega]
    · have : k = n + 1 := by omega
      subst this
      rw [List.filter_eq_self.mpr fun x m => by have := List.mem_range.mp m; exact decide_eq_true (by omega), List.range_succ]
      simp
theorem fil_ge (n k : Nat) : (List.range n).filter (fun j => !decide (j < k)) = (List.range n).drop k := by
  induction n with
  | zero => simp
  | succ n ih =>
    rw [List.range_succ, List.filter_append, ih]
    by_cases e : k ≤ n
    · rw [List.drop_append_of_le_length (by rw [List.length_range]; exact e)]
      simp [show ¬ n < k by omega]
    · rw [List.drop_of_length_le (by rw [List.length_range]; omega), List.drop_of_length_le (by rw [List.length_append, List.length_range, List.length_singleton]; omega)]
      simp [show n < k by omega]
theorem left_at {l : List Bool} {op : Nat → Bool} {i : Nat} (hi : i ≤ l.length) (a : ∀ k, k < i → op k = true) (b : i = l.length ∨ op i = false) : leftL l op = List.range (c l i) := by
  rw [← fil_lt (l.count true) (c l i) (c_le l i)]
  refine List.filter_congr fun j m => ?_
  have hj := List.mem_range.mp m
  have es := sp_at hj
  have k1 := sp_lt l j i _ es
  have k2 := sp_mem l j _ es
  by_cases h : spo l j < i
  · rw [decide_eq_true (k1.mp h)]
    refine List.all_eq_true.mpr fun x mx => a x ?_
    have := List.mem_range.mp mx
    omega
  · rw [decide_eq_false fun z => h (k1.mpr z)]
    rcases b with b | b
    · omega
    · refine Bool.eq_false_iff.mpr fun z => ?_
      have := List.all_eq_true.mp z i (List.mem_range.mpr (by omega))
      rw [b] at this
      cases this
theorem right_at {l : List Bool} {op : Nat → Bool} {i : Nat} (hi : i ≤ l.length) (a : ∀ k, i < k → k ≤ l.length → op k = true) (b : i = 0 ∨ op i = false) : rightL l op = (List.range (l.count true)).drop (c l i) := by
  rw [← fil_ge]
  refine List.filter_congr fun j m => ?_
  have hj := List.mem_range.mp m
  have es := sp_at hj
  have k1 := sp_lt l j i _ es
  have k2 := sp_mem l j _ es
  by_cases h : spo l j < i
  · rw [decide_eq_true (k1.mp h)]
    rcases b with b | b
    · omega
    · refine Bool.eq_false_iff.mpr fun z => ?_
      have := List.all_eq_true.mp z i (List.mem_range'_1.mpr (by omega))
      rw [b] at this
      cases this
  · rw [decide_eq_false fun z => h (k1.mpr z)]
    refine List.all_eq_true.mpr fun x mx => ?_
    have := List.mem_range'_1.mp mx
    exact a x (by omega) (by omega)
theorem drop_back {n k : Nat} (h : k < n) : (List.range n).drop k = k :: (List.range n).drop (k + 1) := by
  rw [List.drop_eq_getElem_cons (by rw [List.length_range]; exact h)]
  simp
/-- a fault: cut (true) or short, and its stretch -/
abbrev Ft := Bool × Nat
def opn (l : List Bool) (fs : List Ft) (k : Nat) : Bool := fs.all fun f => if f.1 then !decide (f.2 = k) else !decide (zone l f.2 = zone l k)
theorem opn_mono {l : List Bool} {f : Ft} {fs : List Ft} {k : Nat} (h : opn l (f :: fs) k = true) : opn l fs k = true := by
  unfold opn at *
  rw [List.all_cons, Bool.and_eq_true] at h
  exact h.2
theorem heard_mono {l : List Bool} {op op2 : Nat → Bool} (h : ∀ k, op k = true → op2 k = true) : ∀ j ∈ heardL l op, j ∈ heardL l op2 := fun j m => by
  unfold heardL at *
  obtain ⟨m1, m2⟩ := List.mem_filter.mp m
  refine List.mem_filter.mpr ⟨m1, ?_⟩
  rcases Bool.or_eq_true_iff.mp m2 with z | z
  · exact Bool.or_eq_true_iff.mpr (.inl (List.all_eq_true.mpr fun x mx => h x (List.all_eq_true.mp z x mx)))
  · exact Bool.or_eq_true_iff.mpr (.inr (List.all_eq_true.mpr fun x mx => h x (List.all_eq_true.mp z x mx)))
theorem heard_up (l : List Bool) (op : Nat → Bool) : (heardL l op).Pairwise (· < ·) := List.Pairwise.filter _ List.pairwise_lt_range
theorem heard_mem {l : List Bool} {op : Nat → Bool} {j : Nat} : j ∈ heardL l op ↔ j ∈ leftL l op ∨ j ∈ rightL l op := by
  unfold heardL leftL rightL
  rw [List.mem_filter, List.mem_filter, List.mem_filter, Bool.or_eq_true]
  exact ⟨fun ⟨a, b⟩ => b.elim (fun z => .inl ⟨a, z⟩) fun z => .inr ⟨a, z⟩, fun z => z.elim (fun ⟨a, b⟩ => ⟨a, .inl b⟩) fun ⟨a, b⟩ => ⟨a, .inr b⟩⟩
theorem zone_le (l : List Bool) (k : Nat) : zone l k ≤ l.count false := (List.take_sublist k l).count_le false
end Rm

/-! range(n) as a value, walked later. -/
namespace Rgv
open PySem PySem.Spec PyProof.Rows L2
section
variable {X : Cx} {tg : Expr}
theorem cr_range1 : CallR X (.type "range") (fun vs H Q => ∃ j, vs = [V.int j] ∧ ∀ p, H p = none → Q (.ref p) (upd H p (.rng 0 j))) := by
  intro pins s σ H vs us Q I r h
  obtain ⟨j, rfl, q⟩ := h
  obtain ⟨u1, rfl, ri⟩ := r.one
  obtain ⟨t, rfl⟩ := ri
  refine call_range_1 ⟨.ref s.heap.objs.size, upd H s.heap.objs.size (.rng 0 j), I.laid (t' := s.toks + 2) (fun b o e => Heap.get?_push_of_some _ e) (Nat.le_refl _) ?_, rfl, q _ (I.hok.fresh (Nat.le_refl _))⟩
  exact ⟨_, t, s.toks + 1, Heap.get?_push_size _ rfl⟩
def iRgv (te : TE) : TI := fun σ H R => te σ H fun x H1 => ∃ (a : Addr) (lo hi : Int), x = .ref a ∧ H1 a = some (.rng lo hi) ∧ (-(2 ^ 62) ≤ lo ∧ lo < 2 ^ 62 ∧ -(2 ^ 62) ≤ hi ∧ hi < 2 ^ 62) ∧ R (Itr lo (hi - lo).toNat) H1
theorem pi_rgv {e : Expr} {te : TE} (he : PE X e te) : PI X tg e (iRgv te) := by
  refine ⟨fun pins s σ H R I h => ?_⟩
  refine thn (he.run pins s σ H _ I h) fun v s1 ⟨x, H1, I1, r1, a, lo, hi, ex, ha, ⟨h1, h2, h3, h4⟩, q⟩ => ?_
  subst ex
  obtain rfl : v = Value.ref a := r1
  obtain ⟨t, u, v, ho⟩ := I1.hok a _ ha
  refine wpAny_pyIter_range ho (small_one h1 h2 h3 h4) ?_
  refine ⟨s1.heap.objs.size, [s1.heap.objs.size], _, _, H1, rfl, I1.kept (t' := s1.toks) fun b o e => Heap.get?_push_of_some _ e, turn_range _ lo (hi - lo).toNat, ?_, fun b hb => ?_, q⟩
  · have e1 : lo + ((0 : Nat) : Int) * 1 = lo := by simp
    have e2 : (((hi - lo).toNat : Nat) : Int) - ((0 : Nat) : Int) = Builtin.Range.rangeSize lo hi 1 := by rw [rangeSize_one]; split <;> omega
    show IsRangeIter _ _ (lo + ((0 : Nat) : Int) * 1) ((((hi - lo).toNat : Nat) : Int) - ((0 : Nat) : Int)) 1
    rw [e1, e2]
    exact Heap.get?_push_size _ rfl
  · have e : b = s1.heap.objs.size := by simpa using hb
    subst e
    exact I1.fpOk (Nat.le_refl _) (I1.hok.fresh (Nat.le_refl _))
end
end Rgv

/-! iter(text) as a value; list(x), x with an __iter__ that gives such a one, and an own __len__; yield from a list. -/
namespace Si2
open PySem PySem.Spec PyProof.Rows L2 ItX
abbrev AIt (h : Heap) (it : Addr) (x : Str) (i : Nat) : Prop := ∃ t, h.IsStrIter it "str_ascii_iterator" x t i
def sgs (x : Str) : List V := x.cps.toList.map fun c => V.str ⟨#[c]⟩
/-- an iterator of the text x, not begun -/
def SiO (x : Str) (it : Addr) : HO := .ext fun h => AIt h it x 0
theorem si_at {h h' : Heap} {it : Addr} {x : Str} {i : Nat} (y : AIt h it x i) (k : ∀ o, h.get? it = some o → h'.get? it = some o) : AIt h' it x i := by
  obtain ⟨t, o, e, r⟩ := y
  exact ⟨t, o, k o e, r⟩
theorem si_ok {P : Program} {w : World} {H : Hp} {h : Heap} {it : Addr} {x : Str} (y : AIt h it x 0) : ObjOk P w H h it (SiO x it) :=
  ⟨y, by obtain ⟨_, o, e, _⟩ := y; exact ⟨o, e⟩, fun _ _ p k => si_at p k⟩
theorem ai_ty {s : Shared} {it : Addr} {x : Str} {i : Nat} (y : AIt s.heap it x i) : s.TypeIs (.ref it) "str_ascii_iterator" := let ⟨_, o, e, c, _⟩ := y; ⟨o, e, c⟩
def rIterS : List V → Hp → VK → Prop := fun xs H Q => ∃ x : Str, xs = [.str x] ∧ x.cps.all (· < 128) = true ∧ ∀ it, H it = none → (∀ b o, H b = some o → b < it) → Q (.ref it) (upd H it (SiO x it))
section
variable {X : Cx}
theorem call_iterS : CallR X (.builtin "iter") rIterS := by
  intro pins s σ H xs us Q I r h
  obtain ⟨x, rfl, ha, q⟩ := h
  obtain ⟨u, rfl, ru⟩ := r.one
  obtain ⟨t, rfl⟩ := ru
  refine Calls.call_function_entry (by decide +kernel) (by decide +kernel) PySem.W.kdk_entry_iter (PySem.W.kdk_args_iter _) ?_
  unfold Builtin.«iter»
  refine wpAny_bind (m := someArgs "iter" 1 2 _) (wpAny_of_eq (a := [Value.str x t]) (by first | rfl | kernel_rfl!) ?_)
  show wpAny _ _ (pyIter (.str x t) >>= _) _ _ _
  refine wpAny_bind (wpAny_pyIter_ascii ha (wpAny_pure ⟨_, rfl, ?_⟩))
  refine ⟨.ref s.heap.objs.size, _, I.laid (t' := s.toks) (fun b u e => Heap.get?_push_of_some _ e) (Nat.le_refl _) (si_ok ⟨t, _, Heap.get?_push_size _ rfl, rfl, rfl⟩), rfl, q _ (I.hok.fresh (Nat.le_refl _)) fun b o e => ?_⟩
  exact (I.hok b o e).lt
end
section
variable {X : Cx} {pins : List (Addr × Obj)} {σ : L2.St} {q it : Addr} {x : Str} {A1 : Around} {Rs : Result → Shared → Prop}
/-- the list at q takes what the iterator gives -/
theorem fill (hh : A1.in1.handled = none) (few : (sgs x).length ≤ 1000) : ∀ (k i : Nat) (H : Hp) (s : Shared), (sgs x).length - i = k → i ≤ (sgs x).length → Inv X pins σ H s → H q = some (.lst ((sgs x).take i)) → FpOk X pins H it → AIt s.heap it x i →
    (∀ s', Inv X pins σ (upd H q (.lst (sgs x))) s' → Rs (.ok (.ret .none)) s') → codeAny (model X.prog X.w) A1 (.builtin "list.extend.loop" ⟨[.ref q, .ref it, .none], []⟩) Rs s := by
  intro k
  have sz := sizeLine_eq
  induction k with
  | zero =>
    intro i H s hk hi I hq fp st hd
    have e : i = (sgs x).length := by omega
    subst e
    obtain ⟨t, st⟩ := st
    obtain ⟨f0, f1, f2, f3, f4, f5⟩ := fp
    refine codeAny_builtin PySem.F.entry_extend_loop ?_
    rw [Around.under_plainId PySem.F.plain_extend_loop _]
    show wpAny _ A1.in1 (pyNext (.ref it) >>= _) _ _ s
    refine wpAny_bind (wpAny_pyNext_ascii_end hh st (Array.getElem?_eq_none (by rw [← Array.length_toList]; show x.cps.toList.length ≤ (sgs x).length; simp [sgs])) fun h' ex => ?_)
    have I1 := I.turned (t' := s.toks) (h' := h') (fun b o nb e => ex b o nb e) f0 f1 f3 f4 f5
    rw [List.take_length] at hq
    have e : upd H q (.lst (sgs x)) = H := by
      funext b
      by_cases c : b = q
      · rw [c, upd_same, hq]
      · rw [upd_ne c]
    exact wpAny_pure (hd _ (by rw [e]; exact I1))
  | succ k ih =>
    intro i H s hk hi I hq fp st hd
    have lt : i < (sgs x).length := by omega
    obtain ⟨t, st⟩ := st
    have lt2 : i < x.cps.size := by rw [← Array.length_toList]; simpa [sgs] using lt
    obtain ⟨f0, f1, f2, f3, f4, f5⟩ := id fp
    refine codeAny_builtin PySem.F.entry_extend_loop ?_
    rw [Around.under_plainId PySem.F.plain_extend_loop _]
    show wpAny _ A1.in1 (pyNext (.ref it) >>= _) _ _ s
    refine wpAny_bind (wpAny_pyNext_ascii_item st (c := x.cps[i]) (Array.getElem?_eq_getElem lt2) fun h' st' sb => ?_)
    have I1 := I.turned (t' := s.toks + 1) (h' := h') (fun b o nb e => (sb.2 b nb).trans e) f0 f1 f3 f4 f5
    obtain ⟨z, ls, kk, r2, hl, e⟩ := I1.lstM hq
    have ll := r2.length
    rw [List.length_take] at ll
    show wpAny _ A1.in1 (updateSeq q (·.push (.str ⟨#[x.cps[i]]⟩ s.toks)) >>= _) _ _ _
    have nq : it ≠ q := fun c => by rw [← c, f0] at hq; cases hq
    refine wpAny_bind (wpAny_updateSeq e rfl (wpAny_pure ⟨plainId_quiet PySem.F.plain_extend_loop _, ?_⟩) (by rw [List.size_toArray]; omega) (by show (ls.toArray.push (.str ⟨#[x.cps[i]]⟩ s.toks)).size ≤ sizeLine + 1; rw [Array.size_push, List.size_toArray]; omega))
    have I2 := I1.lset (f := (·.push (.str ⟨#[x.cps[i]]⟩ s.toks))) (its' := ls ++ [.str ⟨#[x.cps[i]]⟩ s.toks]) (t' := s.toks + 1) hq e (by simp) (ys := (sgs x).take i ++ [V.str ⟨#[x.cps[i]]⟩]) (r2.append (.cons ⟨_, rfl⟩ .nil)) (by rw [List.length_append, List.length_singleton, List.length_take]; omega)
    have tk : (sgs x).take i ++ [V.str ⟨#[x.cps[i]]⟩] = (sgs x).take (i + 1) := by rw [List.take_add_one, List.getElem?_eq_getElem lt]; simp [sgs]
    rw [tk] at I2
    refine ih (i + 1) _ _ (by omega) lt I2 upd_same ⟨by rw [upd_ne nq]; exact f0, f1, f2, f3, f4, f5⟩ (si_at ⟨t, st'⟩ fun o e => (Heap.get?_update_other _ _ (Ne.symm nq)).trans e) fun s' I' => hd s' (by rw [upd_upd] at I'; exact I')
end
section
variable {X : Cx} {C fi fl : Addr} {spI spL : Sp} {EI EL : XK} {n : Nat}
/-- list(x): its __iter__ gives an iterator of a tuple, its __len__ a number -/
def rListItS (K : PySem.W.Frag) (C : Addr) (spI spL : Sp) (EI EL : XK) : List V → Hp → VK → Prop := fun xs H Q => ∃ a dx fs, xs = [.ref a] ∧ H a = some (.ins C dx fs) ∧ ∀ q, H q = none → spI [.ref a] (upd H q (.lst []))
  (fun v H1 => ∃ it x, v = .ref it ∧ H1 it = some (SiO x it) ∧ q < it ∧ (sgs x).length ≤ 1000 ∧ H1 q = some (.lst []) ∧ H1 a = some (.ins C dx fs) ∧
    spL [.ref a] H1 (fun z H2 => ∃ i : Int, z = .int i ∧ 0 ≤ i ∧ i < 1000 ∧ H2 = H1 ∧ Q (.ref q) (upd (dropH H1 it) q (.lst (sgs x)))) EL) EI
theorem call_listItS (hs : PySem.W.findIn X.K (.ref C) "__iter__" = some (some (.ref fi))) (hf : PySem.W.isFn X.K (.ref fi) = true) (hl : PySem.W.findIn X.K (.ref C) "__len__" = some (some (.ref fl))) (hlf : PySem.W.isFn X.K (.ref fl) = true)
    (FI : FnR X.prog X.w X.K X.mg X.base CX0 n fi spI) (FL : FnR X.prog X.w X.K X.mg X.base CX0 n fl spL) (hc : X.calm = true) (hr : Room (n + 4) X.A) : CallR X (.type "list") (rListItS X.K C spI spL EI EL) := by
  intro pins s σ H xs us Q I rv h
  obtain ⟨a, dx, fs, rfl, ha, hq⟩ := h
  obtain ⟨u, rfl, ru⟩ := rv.one
  cases (show u = Value.ref a from ru)
  have sb : Sub X (n + 1) X.A.in1.in1.in1 := Sub.in1 (Sub.in1 (Sub.in1 ⟨hr, rfl⟩))
  refine callType_codes (Q₁ := fun obj s₁ => obj = .ref s.heap.objs.size ∧ s₁ = { s with heap := s.heap.push { cls := .type "list", data := .seq #[] } })
    PySem.F.called_list (PySem.F.typeCall_list_1 _) PySem.F.entry_list_init (code_list_new _ ⟨rfl, rfl⟩) fun obj s₁ h₁ => ?_
  obtain ⟨rfl, rfl⟩ := h₁
  have hS : (s.heap.push { cls := .type "list", data := .seq #[] }).get? s.heap.objs.size = some { cls := .type "list", data := .seq #[] } := Heap.get?_push_size _ rfl
  refine ⟨⟨_, hS, rfl⟩, PySem.F.args_list_init_2 _ _, ?_⟩
  have fr : H s.heap.objs.size = none := I.hok.fresh (Nat.le_refl _)
  have hsp := hq _ fr
  have young : X.s_0.heap.objs.size ≤ s.heap.objs.size := I.sz
  have I1 : Inv X pins σ (upd H s.heap.objs.size (.lst [])) { s with heap := s.heap.push { cls := .type "list", data := .seq #[] } } := I.lnew (its := []) (t' := s.toks) .nil (Nat.zero_le _)
  show wpAny _ _ (Builtin.List.listItems (.ref s.heap.objs.size) >>= fun old => Builtin.List.listUpdate (.ref s.heap.objs.size) (fun _ => #[]) >>= fun _ => letGo old.toList.reverse >>= fun _ => Builtin.List.listExtendWith (.ref s.heap.objs.size) (.ref a) .none) _ _ _
  refine wpAny_bind ?_
  unfold Builtin.List.listItems
  refine wpAny_bind (wpAny_seqItems hS rfl (wpAny_pure ?_))
  show wpAny _ _ (updateSeq s.heap.objs.size (fun _ => #[]) >>= fun _ => letGo (#[] : Array Value).toList.reverse >>= fun _ => Builtin.List.listExtendWith (.ref s.heap.objs.size) (.ref a) .none) _ _ _
  refine wpAny_bind (wpAny_updateSeq hS rfl ?_)
  have I2 := I1.lset (f := fun _ => #[]) (its := []) (its' := []) (ys := []) (t' := s.toks) upd_same hS rfl .nil (Nat.zero_le _)
  rw [upd_upd] at I2
  refine wpAny_bind (wpAny_letGo ?_)
  have ha2 : upd H s.heap.objs.size (.lst []) a = some (.ins C dx fs) := by rw [upd_ne (ne_of_none ha fr)]; exact ha
  have nqa : s.heap.objs.size ≠ a := (ne_of_none ha fr).symm
  have low : s.heap.objs.size < ({ s with heap := (s.heap.push { cls := .type "list", data := .seq #[] }).update s.heap.objs.size (Obj.mapSeq fun _ => #[]) } : Shared).heap.objs.size := (I2.hok _ _ upd_same).lt
  generalize hq0 : s.heap.objs.size = q at *
  generalize ({ s with heap := (s.heap.push { cls := .type "list", data := .seq #[] }).update q (Obj.mapSeq fun _ => #[]) } : Shared) = s1 at *
  generalize hH1 : upd H q (.lst []) = H1 at *
  have hq1 : H1 q = some (.lst []) := by rw [← hH1]; exact upd_same
  obtain ⟨ox, od, J⟩ := Ow.ins_at I2 ha2
  obtain ⟨m0, hF⟩ := I2.fr
  unfold Builtin.List.listExtendWith
  refine wpAny_bind (J.type.here ?_)
  have b1 : Builtin.List.listSameRef (.ref q) (.ref a) = false := by simp [Builtin.List.listSameRef, nqa]
  have b2 : (Value.ref C == Value.type "list") = false ∧ (Value.ref C == Value.type "tuple") = false := ⟨rfl, rfl⟩
  simp only [b1, b2.1, b2.2, Bool.or_false, Bool.false_eq_true, if_false]
  refine wpAny_bind (PySem.W.owit_iter hF I2.ok.mod.kin J hs hf ?_)
  have env : ∀ {s2 : Shared} {H2 : Hp}, Inv X pins σ H2 s2 → Env0 X.prog X.w X.K X.mg X.base X.A.in1.in1 X.stack s2 H2 := fun I => by
    have e := I.env0
    exact ⟨e.frames, e.mod, e.bs, e.bsz, e.funs, e.frf, e.hok, e.bare⟩
  have room0 : Room (n + 1) X.A.in1.in1 := (hr.in1.in1).mono (by omega)
  have room1 : Room n X.A.in1.in1 := room0.mono (by omega)
  refine wpAny_mono (wpAny_call (Li.sure_at (us := [.ref a]) (ws := [.ref a]) FI room1 (env I2) I2 (.cons rfl .nil) hsp)) (fun v s3 hv => ?_) fun _ _ x => x.elim
  obtain ⟨v', H3, I3, rv3, it, x, rfl, hit, qlt, few, hq3, ha3, hsp2⟩ := hv
  cases (show v = Value.ref it from rv3)
  have st3 : AIt s3.heap it x 0 := (I3.hok it _ hit).1
  unfold PySem.W.OwitIt
  refine wpAny_specialOf (name := Str.ofString "__next__") (ai_ty st3) PySem.F.slot_str_ascii_iterator_next.lookup ?_
  refine wpAny_bind (wpAny_holding ?_)
  unfold Builtin.List.listLengthHint
  obtain ⟨ox3, od3, J3⟩ := Ow.ins_at I3 ha3
  obtain ⟨m3, hF3⟩ := I3.fr
  refine wpAny_bind (wpAny_bind (J3.type.here ((PySem.W.looks_findIn I3.kIn hl).here ?_)))
  refine PySem.W.KFB.if_not rfl ?_
  refine wp_if_pos rfl (wpAny_bind (wpAny_rule (wpAny_bind (wpAny_attempt ?_))))
  refine PySem.W.len_K hF3 I3.ok.mod.kin J3 hl hlf (wpAny_mono (wpAny_call (Li.sure_at (us := [.ref a]) (ws := [.ref a]) FL (room0.in1) (env I3).in1 I3 (.cons rfl .nil) hsp2)) (fun w s4 z => ?_) fun _ _ x => x.elim)
  obtain ⟨z', H4, I4, rz, i, rfl, h0, h1, rfl, qz⟩ := z
  obtain ⟨tk, e⟩ := (show ∃ tk, w = Value.int i tk from rz)
  cases e
  refine ⟨⟨h0, by omega⟩, ?_⟩
  dsimp only
  refine wpAny_bind (wpAny_of_eq (a := some i) rfl ?_)
  have sl := sizeLine_eq
  refine wp_if_neg (by unfold Builtin.List.listTooLong; rw [decide_eq_true_eq]; omega) (wpAny_pure ?_)
  have I5 := inv_drop (I4.tok (s4.toks + 1)) hit
  have fp : FpOk X pins (dropH H4 it) it := inv_fp I4 hit (Nat.le_trans young (Nat.le_of_lt qlt))
  have nqi : q ≠ it := Nat.ne_of_lt qlt
  have hq5 : dropH H4 it q = some (.lst []) := (dropH_ne nqi).trans hq3
  have st5 : AIt s4.heap it x 0 := (I4.hok it _ hit).1
  have hh : X.A.in1.in1.handled = none := by simp [I.ok.hd hc]
  have go : ∀ s6 : Shared, Inv X pins σ (dropH H4 it) s6 → AIt s6.heap it x 0 → codeAny (model X.prog X.w) X.A.in1 (.builtin "list.extend.loop" ⟨[.ref q, .ref it, .none], []⟩) (wants (fun r s₂ => r = .none ∧ EP X pins σ Q (.ref q) s₂) X.xe) s6 := fun s6 I6 st6 =>
    fill (x := x) hh few ((sgs x).length - 0) 0 _ s6 rfl (Nat.zero_le _) I6 hq5 fp st6 fun s7 I7 => ⟨rfl, ⟨.ref q, _, I7, rfl, qz⟩⟩
  refine wpAny_ite_split (fun _ => ?_) fun _ => wpAny_pure ⟨plainId_quiet PySem.F.plain_extend_loop _, go _ I5 st5⟩
  refine wpAny_bind (wpAny_rule (wpAny_bind ?_))
  obtain ⟨z5, its5, k5, r5, l5, e5⟩ := I5.lstM hq5
  cases r5
  show wpAny _ _ (updateSeq q (·.push Value.none) >>= fun _ => updateSeq q (·.pop)) _ _ _
  refine wpAny_bind (wpAny_updateSeq e5 rfl ?_)
  have I6 := I5.lset (f := (·.push Value.none)) (its' := [Value.none]) (ys := [.non]) (t' := s4.toks + 1) hq5 e5 (by simp) (.cons rfl .nil) (by rw [List.length_singleton, sl]; decide)
  obtain ⟨z6, its6, k6, r6, l6, e6⟩ := I6.lstM upd_same
  obtain ⟨u6, rfl, ru6⟩ := r6.one
  refine wpAny_updateSeq e6 rfl ?_ (by show 1 ≤ sizeLine; rw [sl]; decide) (by show 0 ≤ sizeLine + 1; exact Nat.zero_le _)
  have I7 := I6.lset (f := (·.pop)) (its := [u6]) (its' := []) (ys := []) (t' := s4.toks + 1) upd_same e6 (by rfl) .nil (Nat.zero_le _)
  rw [upd_upd, show upd (dropH H4 it) q (.lst []) = dropH H4 it from funext fun b => by
    by_cases c : b = q
    · rw [c, upd_same, hq5]
    · rw [upd_ne c]] at I7
  refine wpAny_pure ⟨plainId_quiet PySem.F.plain_extend_loop _, go _ I7 (si_at st5 fun o e => ?_)⟩
  exact (Heap.get?_update_other _ _ nqi).trans ((Heap.get?_update_other _ _ nqi).trans e)
end

section
variable {prog : Program} {w : World} {A : Around} {E : Value → Shared → Prop} {s : Shared}
theorem special_lst_item {it l : Addr} {i : Nat} {items : Array Value} {x : Value} {Q : Option Value → Shared → Prop} (hit : s.heap.IsListIter it l i) (hl : s.heap.IsList l items) (hx : items[i]? = some x)
    (hQ : ∀ h', h'.IsListIter it l (i + 1) → Heap.SameBut it s.heap h' → Q (some x) { s with heap := h' }) : wpAny (model prog w) A (callSpecial? (.ref it) "__next__") Q E s := by
  obtain ⟨o, ho, hc, hd⟩ := id hit
  obtain ⟨ol, hol, _, nl, hdl⟩ := hl
  refine wpAny_callSpecial?_slot (name := Str.ofString "__next__") hit.typeIs slot_listiter_next (wpAny_call_entry slot_listiter_next hit.typeIs entry_listiter_next ?_ (args_listiter_next _))
  show wpAny _ _ (field (.ref it) 0 >>= _) _ _ s
  refine wpAny_bind (wpAny_field ho hd (x := .ref l) rfl ?_)
  show wpAny _ _ (if (Value.ref l == Value.none) = true then _ else _) _ _ s
  rw [if_neg (show ¬ ((Value.ref l == Value.none) = true) from Bool.false_ne_true)]
  show wpAny _ _ (field (.ref it) 1 >>= _) _ _ s
  refine wpAny_bind (wpAny_field ho hd (x := .int i 0) rfl ?_)
  show wpAny _ _ (seqItems? (.ref l) >>= _) _ _ s
  refine wpAny_bind (wpAny_seqItems hol hdl ?_)
  simp only [Int.toNat_natCast, hx]
  refine wpAny_bind (wpAny_setField ho hd (by simp) (wpAny_pure ⟨x, rfl, hQ _ ?_ (Heap.SameBut.update ..)⟩))
  exact ⟨_, Heap.get?_update_self _ ho (Obj.isFreed_of_fields (Obj.data_mapFields hd _)), (Obj.cls_mapFields ..).trans hc, by
    rw [Obj.data_mapFields hd]; simp [rawInt]⟩
theorem special_lst_end {it l : Addr} {i : Nat} {items : Array Value} {Q : Option Value → Shared → Prop} (hh : A.handled = none) (hit : s.heap.IsListIter it l i) (hl : s.heap.IsList l items) (hx : items[i]? = none)
    (hE : ∀ e h', StopX e h' → Heap.ExtBut it s.heap h' → E e { s with heap := h' }) : wpAny (model prog w) A (callSpecial? (.ref it) "__next__") Q E s := by
  obtain ⟨o, ho, hc, hd⟩ := id hit
  obtain ⟨ol, hol, _, nl, hdl⟩ := hl
  refine wpAny_callSpecial?_slot (name := Str.ofString "__next__") hit.typeIs slot_listiter_next (wpAny_call_entry slot_listiter_next hit.typeIs entry_listiter_next ?_ (args_listiter_next _))
  show wpAny _ _ (field (.ref it) 0 >>= _) _ _ s
  refine wpAny_bind (wpAny_field ho hd (x := .ref l) rfl ?_)
  show wpAny _ _ (if (Value.ref l == Value.none) = true then _ else _) _ _ s
  rw [if_neg (show ¬ ((Value.ref l == Value.none) = true) from Bool.false_ne_true)]
  show wpAny _ _ (field (.ref it) 1 >>= _) _ _ s
  refine wpAny_bind (wpAny_field ho hd (x := .int i 0) rfl ?_)
  show wpAny _ _ (seqItems? (.ref l) >>= _) _ _ s
  refine wpAny_bind (wpAny_seqItems hol hdl ?_)
  simp only [Int.toNat_natCast, hx]
  refine wpAny_bind (wpAny_rule (wpAny_bind (wpAny_setField ho hd (by simp) ?_)))
  show wpAny _ _ (newExc (.type "StopIteration") [] >>= _) _ _ _
  refine wpAny_bind ?_
  simp only [newExc, newTuple]
  refine wpAny_bind (wpAny_newObj_type ?_ (by size_fits))
  refine wpAny_bind (m := firstArgMember _ _) (wpAny_of_eq (a := Value.none) (by first | rfl | (simp only [firstArgMember]; rfl)) ?_)
  refine wpAny_newObj_type ?_ (by size_fits)
  simp only [raiseNew]
  refine wpAny_bind (wpAny_handled ?_)
  first | rw [show A.in1.handled = none from hh] | rw [hh]
  refine wpAny_bind (wpAny_pure (wpAny_throw ?_))
  refine hE _ _ ⟨_, _, _, rfl, Heap.get?_push_size _ rfl, rfl, rfl, ?_⟩ (((Heap.SameBut.update ..).extBut.push _).push _)
  first
    | rfl
    | (rw [Array.getElem?_append_left (by decide)]; rfl)
    | kernel_rfl
end
section
variable {X : Cx} {e : Expr} {te : TE}
def tYfLst (te : TE) : TYf := fun σ H Q => te σ H fun x H1 => ∃ a xs, x = .ref a ∧ H1 a = some (.lst xs) ∧ Q xs H1
theorem close_lst : typeLookup (.type "list_iterator") "close" = pure none := by rw [typeLookup_type, builtinLookup_eq_fast]; kernel_rfl
theorem yf_lst (he : PE X e te) : YfE X e (tYfLst te) := by
  refine ⟨fun pins s σ H Q I h => ?_⟩
  refine thn (he.run pins s σ H _ I h) fun v s1 ⟨x, H1, I1, r1, a, xs, ex, ha, hq⟩ => ?_
  subst ex
  obtain rfl : v = Value.ref a := r1
  obtain ⟨its, rits, pl, hlen⟩ := I1.list (SqL.of ha)
  have ht : s1.heap.IsList a its.toArray := pl.isList
  refine ⟨"list", ht.typeIs, by decide, wpAny_pyIter_list ht ?_⟩
  have lta : a < s1.heap.objs.size := let ⟨_, e, _⟩ := ht; Heap.lt_size e
  have ksz : ∀ b o, s1.heap.get? b = some o → b ≠ s1.heap.objs.size := fun b o e => Nat.ne_of_lt (Heap.lt_size e)
  have kp : ∀ b o, s1.heap.get? b = some o → (s1.heap.push { cls := .type "list_iterator", data := .fields #[.ref a, .int 0 0] }).get? b = some o := fun b o e => Heap.get?_push_of_some _ e
  refine ⟨s1.heap.objs.size, H1, xs, fun j h => h.IsListIter s1.heap.objs.size a j ∧ h.IsList a its.toArray, rfl, I1.kept (t' := s1.toks) kp, .inr I1.sz, Nat.ne_of_gt I1.lt, fun y c hy => ?_, I1.hok.fresh (Nat.le_refl _), fun p hp => ?_,
    ⟨⟨_, Heap.get?_push_size _ rfl, rfl, rfl⟩, ht.push _⟩, ⟨⟨"list_iterator", fun j h q => ?_, close_lst, by decide⟩, fun j h h' q hk => ?_, fun A' j x s2 Q' E' hA hx q hQ => ?_, fun A' s2 Q' E' hA q hE => ?_⟩, hq⟩
  · obtain ⟨v, o, ho, _⟩ := I1.cell y c hy
    exact ksz c o ho
  · exact ksz p.1 _ (I1.pin p hp).1
  · obtain ⟨⟨o, ho, hc, _⟩, _⟩ := q
    exact ⟨o, ho, hc⟩
  · obtain ⟨⟨o, ho, r⟩, o2, ho2, r2⟩ := q
    exact ⟨⟨o, hk _ o (.inl rfl) ho, r⟩, o2, hk _ o2 (.inr (by rw [ha]; exact fun z => by cases z)) ho2, r2⟩
  · obtain ⟨q1, q2⟩ := q
    obtain ⟨u, hu, ru⟩ := rits.get hx
    have hne : a ≠ s1.heap.objs.size := Nat.ne_of_lt lta
    exact special_lst_item q1 q2 (x := u) (by simpa using hu) fun h' q1' hs => hQ u h' s2.toks ru ⟨q1', q2.extBut hs.extBut hne⟩ fun b o hb eb => hs.extBut b o hb eb
  · obtain ⟨q1, q2⟩ := q
    have hnone : its.toArray[xs.length]? = none := by
      have e := rits.length
      have e2 : its[xs.length]? = none := List.getElem?_eq_none_iff.mpr (by omega)
      simpa using e2
    exact special_lst_end hA q1 q2 hnone fun e h' hS hk => hE e h' s2.toks hS fun b o hb eb => hk b o hb eb
end
end Si2

/-! list(text); a call that may raise in a try, where no StopIteration comes. -/
namespace St2
open PySem PySem.Spec PyProof.Rows L2
theorem passLN {X : Cx} {W : WX} (n : Nat) (hn : X.N.length = n) (tk : Takes X W) : Passes (L2.CX X.prog X.w) X (fun cls d H => PySem.W.subIn X.K cls (.type "StopIteration") = some false ∧ ∀ σ : L2.St, σ.length = n → W cls d σ H) :=
  fun _ σ _ _ e s' I c => tk e s' (XE.of_call I (fun _ _ _ h => h.2 σ (I.len.trans hn)) c)
theorem pss_two {X : Cx} {a b : Stmt} {t u v : TS} (h : PS X a t) (g : PS X b u) (e : v = tSeq t u) : PSs X [a, b] v := by
  subst e
  exact pss_cons h (pss_one g)
/-- C(e, ..) whose __init__ may raise: what is raised is wished for at the slots as they stand -/
def tMakeS (C : Addr) (sp : Sp) (E : L2.St → XK) (t : TA) : TE := fun σ H Q => t σ H fun vs H1 => ∀ x dx, H1 x = none → H1 dx = none → dx ≠ x →
  sp (.ref x :: vs) (upd (upd H1 dx (.own x)) x (.ins C dx [])) (fun v H2 => v = .non ∧ Q (.ref x) H2) (E σ)
theorem pe_makeS {X : Cx} {CX : CXT} {k : Nat} {f C : Addr} {fd : FuncData} {ps : List Str} {sp : Sp} {E : L2.St → XK} {x : Str} {p pos : Pos} {e : Expr} {es : List Expr} {t : TA} (M : Mk X.K C f) (F : FnOk X.prog X.w X.K X.mg X.base CX k f fd ps sp) (hr : Room (k + 1) X.A) (hg : Gl X x) (hm : X.mg x = some (.ref C)) (hb : Binds X.K fd ps [])
    (hx : ∀ σ, PassesAt CX X σ (E σ)) (ha : PA X (e :: es) t) (hdb : (x == ("__debug__" : Str)) = false := by decide) (he : starEach (e :: es) X.env = (false, eval e X.env) :: starEach es X.env := by rfl) (hpl : (backTo pos (starEach es X.env)).any (·.1) = false := by rfl) :
    PE X (.Call (.Name x p) (e :: es) [] pos) (tMakeS C sp E t) := by
  constructor
  intro pins s σ H Q I h
  refine wpAny_Call_Name_kw (ld_glob I hg hm ?_ hdb)
  refine PySem.W.callWith_K (h₀ := X.base) I.ok.mod.kin M.kp (thn (ha.run pos pins s σ H _ I h) fun us s1 w => ?_) he hpl
  obtain ⟨vs, H1, J, r, q⟩ := w
  refine ⟨J.kIn, ?_⟩
  have free := J.hok.fresh (Nat.le_refl s1.heap.objs.size)
  have go := q (s1.heap.objs.size + 1) _ (J.hok.fresh (Nat.le_succ _)) free (Nat.ne_of_lt (Nat.lt_succ_self _))
  have J2 := Inv.made (C := C) J
  have r2 : Vals (V.ref (s1.heap.objs.size + 1) :: vs) (Value.ref (s1.heap.objs.size + 1) :: us) := .cons rfl r
  have many := (r2.length.symm.trans (F.len _ _ _ _ go)).trans rfl
  have bound := hb _ (Value.ref (s1.heap.objs.size + 1) :: us) J2.kIn (by rw [List.append_nil]; exact many)
  rw [List.append_nil] at bound
  have ran := F.run _ X.stack _ _ _ _ _ _ (E σ) (hr.make C us []) (J2.env0.make C us []) bound r2 go
  refine wpAny_call (make_map (f := f) J.kIn M.makes M.init (beq_iff_eq.mp M.fn) (codeAny_mono ran fun z t2 hz => ?_))
  match z, hz with
  | .error _, hz => exact hx σ pins _ _ _ _ J2 hz
  | .ok (.ret _), hz =>
    obtain ⟨_, _, J3, rv, ev, q3⟩ := J2.after hz
    subst ev
    exact ⟨rv, V.ref (s1.heap.objs.size + 1), _, J3, rfl, q3⟩
  | .ok .next, hz => exact hz.elim
  | .ok .brk, hz => exact hz.elim
  | .ok .cont, hz => exact hz.elim
theorem noStop {K : PySem.W.Frag} {P : Value → Option Addr → Hp → Prop} : NoStop K (fun cls d H => PySem.W.subIn K cls (.type "StopIteration") = some false ∧ P cls d H) := fun _ _ _ h => h.1
theorem vals_signs {x : Str} {acc : Array Value} (h : ItemsOf (SignAt x) acc x.cps.size) : Vals (Si2.sgs x) acc.toList := by
  refine vals_of_at ?_ fun j a u ha hu => ?_
  · rw [show acc.toList.length = x.cps.size from (Array.length_toList).trans h.1]
    simp [Si2.sgs]
  · obtain ⟨c, t, hc, rfl⟩ := h.2 j u (by rw [← hu, Array.getElem?_toList])
    unfold Si2.sgs at ha
    rw [List.getElem?_map, Array.getElem?_toList, hc] at ha
    cases ha
    exact ⟨t, rfl⟩
def rListS : List V → Hp → VK → Prop := fun xs H Q => ∃ x : Str, xs = [.str x] ∧ x.length ≤ sizeLine ∧ ∀ q, H q = none → Q (.ref q) (upd H q (.lst (Si2.sgs x)))
theorem call_listS {X : Cx} (hc : X.calm = true) : CallR X (.type "list") rListS := by
  intro pins s σ H xs us Q I r h
  obtain ⟨x, rfl, hl, q⟩ := h
  obtain ⟨u, rfl, ru⟩ := r.one
  obtain ⟨t, rfl⟩ := ru
  refine call_list_str (I.ok.hd hc) x t (fun h' tk acc c' hk e' hi => ?_) hl
  refine ⟨.ref s.heap.objs.size, upd H s.heap.objs.size (.lst (Si2.sgs x)), I.laid hk (Nat.le_refl _) (show ObjOk X.prog X.w _ _ _ (.lst (Si2.sgs x)) from ⟨?_, acc.toList, c', vals_signs hi, ?_⟩), rfl, q _ (I.hok.fresh (Nat.le_refl _))⟩
  · show (Si2.sgs x).length ≤ sizeLine
    unfold Si2.sgs
    rw [List.length_map, Array.length_toList]
    exact hl
  · rw [Array.toArray_toList]; exact e'
end St2

/-! x in a list or a tuple of data of any depth. -/
namespace Ind
open PySem PySem.Spec PyProof.Rows L2
def seqD (t : Bool) (ds : List PyData) : PyData := if t = true then .tuple ds else .list ds
def rInS (K : PySem.W.Frag) : R2 := fun x y H Q => ∃ (d : PyData) (ds : List PyData) (t : Bool), Dp K H x d ∧ Dp K H y (seqD t ds) ∧ d.canLay0 = true ∧ d.depth ≤ 60 ∧ PyData.canLayAll0 ds = true ∧ Q (.bl (ds.any fun z => PyData.eqv z d)) H
theorem op_inS {X : Cx} (hu : X.A.units + 65 < cLine) : OpR X (compareOp .In) (rInS X.K) := by
  intro pins s σ H x y v u Q I rx ry h
  obtain ⟨d, ds, t, hd, he, sd, dd, se, q⟩ := h
  obtain ⟨as, r1⟩ := Dp.reads I d x v hd rx
  have room : X.A.units + 1 + min (PyData.depthAll ds) d.depth < cLine := by
    have := Nat.min_le_right (PyData.depthAll ds) d.depth
    omega
  cases t with
  | true =>
    obtain ⟨bs, r2⟩ := Dp.reads I (.tuple ds) y u he ry
    exact SeqAt.in_tuple_reads r2 r1 se sd room ⟨.bl _, H, I, rfl, q⟩
  | false =>
    obtain ⟨bs, r2⟩ := Dp.reads I (.list ds) y u he ry
    exact SeqAt.in_list_reads r2 r1 se sd room ⟨.bl _, H, I, rfl, q⟩
theorem isD {K : PySem.W.Frag} {t : Bool} {H : Hp} {p : Addr} {xs : List V} {ds : List PyData} (h : Kd.Is K t H p xs) (g : DpAll K H xs ds) : Dp K H (.ref p) (seqD t ds) := by
  cases t with
  | true => exact .tup h g
  | false => exact .lst h g
theorem room65 {k : Nat} {A : Around} (r : Room k A) : A.units + 65 < cLine := by have := r.un; omega
end Ind
namespace Ind
open PySem PySem.Spec PyProof.Rows L2
def rNinS (K : PySem.W.Frag) : R2 := fun x y H Q => ∃ (d : PyData) (ds : List PyData) (t : Bool), Dp K H x d ∧ Dp K H y (seqD t ds) ∧ d.canLay0 = true ∧ d.depth ≤ 60 ∧ PyData.canLayAll0 ds = true ∧ Q (.bl (!ds.any fun z => PyData.eqv z d)) H
theorem op_ninS {X : Cx} (hu : X.A.units + 65 < cLine) : OpR X (compareOp .NotIn) (rNinS X.K) := by
  intro pins s σ H x y v u Q I rx ry h
  obtain ⟨d, ds, t, hd, he, sd, dd, se, q⟩ := h
  obtain ⟨as, r1⟩ := Dp.reads I d x v hd rx
  have room : X.A.units + 1 + min (PyData.depthAll ds) d.depth < cLine := by
    have := Nat.min_le_right (PyData.depthAll ds) d.depth
    omega
  cases t with
  | true =>
    obtain ⟨bs, r2⟩ := Dp.reads I (.tuple ds) y u he ry
    exact SeqAt.notIn_tuple_reads r2 r1 se sd room ⟨.bl _, H, I, rfl, q⟩
  | false =>
    obtain ⟨bs, r2⟩ := Dp.reads I (.list ds) y u he ry
    exact SeqAt.notIn_list_reads r2 r1 se sd room ⟨.bl _, H, I, rfl, q⟩
end Ind

/-! A method of an own class that may raise, called with values (the guide's way). -/
namespace MS
open PySem PySem.Spec PyProof.Rows L2
def tMethS (C : Addr) (m : Str) (sp : Sp) (E : L2.St → XK) (ta : TE) (t : TA) : TE := fun σ H Q => ta σ H fun x H1 => ∃ a dx fs, x = .ref a ∧ H1 a = some (.ins C dx fs) ∧ fs.lookup m = none ∧ t σ H1 fun vs H2 => sp (x :: vs) H2 Q (E σ)
theorem pe_methS {X : Cx} {CX : CXT} {k : Nat} {f C : Addr} {fd : FuncData} {ps : List Str} {sp : Sp} {E : L2.St → XK} {m : Str} {pos apos : Pos} {e o : Expr} {es : List Expr} {ta : TE} {t : TA} {pl : Sem Bool} (he : PE X o ta) (c : Cls X.K C) (hm : Meth X.K C m f)
    (F : FnOk X.prog X.w X.K X.mg X.base CX k f fd ps sp) (hr : Room k X.A) (hb : Binds X.K fd ps []) (hx : ∀ σ, PassesAt CX X σ (E σ)) (ha : PA X (e :: es) t)
    (hst : starEach (e :: es) X.env = (false, eval e X.env) :: starEach es X.env := by rfl) (hpl : (backTo pos (starEach es X.env)).any (·.1) = false := by rfl)
    (ht : eval (.Call (.Attribute o m apos) (e :: es) [] pos) X.env = (do
      let ov ← eval o X.env
      standAt apos.atName
      let (f, first) ← holding [ov] (getMethod ov m pl)
      callWith pos f first (backTo pos (starEach (e :: es) X.env)) (backToKw pos (keywordEach [] X.env))) := by rfl) :
    PE X (.Call (.Attribute o m apos) (e :: es) [] pos) (tMethS C m sp E ta t) := by
  refine ⟨fun pins s σ H Q I h => ?_⟩
  refine PySem.W.methodCall_KW (pl := pl) (thn (he.run pins s σ H _ I h) fun u s1 ⟨x, H1, I1, rx, a, dx, fs, ex, ea, l, q⟩ => ?_) ht
  subst ex
  obtain rfl : u = Value.ref a := rx
  refine getmeth_ok I1 ea c hm l ?_
  refine PySem.W.callWith_K (first := [.ref a]) (h₀ := X.base) I.ok.mod.kin hm.kp (thn (ha.run pos pins s1 σ H1 _ I1 q) fun us s2 ⟨vs, H2, I2, r, q2⟩ => ⟨I2.kIn, ?_⟩) hst hpl
  exact run_fnS (us := .ref a :: us) (vs := .ref a :: vs) F hr hb (hx σ) I2 (.cons rfl r) q2
end MS

/-! isinstance of a caught error with a dict of its own; == over data without dicts; text * int. -/
namespace Xe
open PySem PySem.Spec PyProof.Rows L2
/-- isinstance(e, c), e the error of the class at C that the suite holds, with its own dict -/
def rIsD (K : PySem.W.Frag) (C a : Addr) (cls : Value) (d : Option Addr) : List V → Hp → VK → Prop := fun xs H Q => ∃ (c : V) (cv : Value) (b : Bool) (dd : Addr) (fs : List (Str × V)), xs = [.ref a, c] ∧ cls = .ref C ∧ d = some dd ∧ H dd = some (.xd fs) ∧ (∀ u, RelV c u → u = cv) ∧
  PySem.W.kitOne K (.ref C) cv = some b ∧ Q (.bl b) H
theorem call_isD {X : Cx} {a C : Addr} {oe : Obj} {cls : Value} {d : Option Addr} {pn : List (Addr × Obj)} (EC : ExcC X.K C) (hcl : (PySem.W.clsIn X.K C).isSome = true) (hz : Zc cls d oe) (hf : ∃ vs, oe.data = .fields vs) : CallR (X.suite a ((a, oe) :: pn)) (.builtin "isinstance") (rIsD X.K C a cls d) := by
  intro pins s σ H xs us Q I r h
  obtain ⟨c, cv, b, dd, fs, rfl, ec, ed, hH, hcv, e, q⟩ := h
  subst ec ed
  cases r with
  | cons rx rr =>
    cases rr with
    | cons rt rr =>
      cases rr
      cases rx
      have ec := hcv _ rt
      subst ec
      obtain ⟨hget, _⟩ := I.pin (a, oe) (List.mem_append.mpr (.inl List.mem_cons_self))
      obtain ⟨vs, hd⟩ := hf
      have hx : ObjOk X.prog X.w H s.heap dd (.xd fs) := I.hok dd _ hH
      obtain ⟨mA, hns, hr⟩ := hx
      obtain ⟨od, ho, hl⟩ := lookIn_ns hns
      have J : PySem.W.InstAt s.heap a oe C (some od) := ⟨hget, hz.1, by unfold PySem.W.notCls; rw [hd] <;> rfl, by rw [hz.2]; exact ho⟩
      exact PySem.W.kia_one (PySem.W.kitx_exc hcl EC.hg EC.hk EC.hs EC.ha EC.hn EC.ht EC.hm) I.kIn J e (fun z => nomatch z) fun tk => ⟨.bl b, H, I.kept (t' := tk) fun _ _ z => z, rfl, q⟩
section
variable {X : Cx}
/-- None != None, (True, t) != (True, t): both answers the same -/
def rNe2 (K : PySem.W.Frag) : R2 := fun x y H Q => (x = .non ∧ y = .non ∧ Q (.bl false) H) ∨ ∃ p q t, x = .ref p ∧ y = .ref q ∧ SqT K H p [.bl true, .str t] ∧ SqT K H q [.bl true, .str t] ∧ Q (.bl false) H
theorem op_ne2 (hu : X.A.units + 64 < cLine) : OpR X (compareOp .NotEq) (rNe2 X.K) := by
  intro pins s σ H x y v u Q I rx ry h
  rcases h with ⟨rfl, rfl, q⟩ | ⟨p, q, t, rfl, rfl, hp, hq, h⟩
  · cases rx
    cases ry
    exact (PySem.SeqAt.RcNeAt.none_none (A := X.A) (s := s)) X.prog X.w X.xe _ ⟨.bl false, H, I, rfl, q⟩
  · cases rx
    cases ry
    obtain ⟨its, r1, p1, _⟩ := I.tuple hp
    obtain ⟨its2, r2, p2, _⟩ := I.tuple hq
    cases r1 with
    | cons a1 b1 =>
    cases b1 with
    | cons a2 b2 =>
    cases b2
    cases r2 with
    | cons c1 d1 =>
    cases d1 with
    | cons c2 d2 =>
    cases d2
    cases a1
    cases c1
    obtain ⟨k1, rfl⟩ := a2
    obtain ⟨k2, rfl⟩ := c2
    have e := PySem.SeqAt.RcNeAt.tuples (A := X.A) (s := s) (e := fun _ => true) p1 p2 (by omega) (fun j h1 h2 => by
      have hj : j = 0 ∨ j = 1 := by
        have : j < 2 := h1
        omega
      rcases hj with rfl | rfl
      · have := PySem.SeqAt.EqAt.bool_bool (A := X.A.in1) (s := s) true true
        simpa using this
      · have := PySem.SeqAt.EqAt.str_str (A := X.A.in1) (s := s) t k1 t k2
        simpa using this)
    exact e X.prog X.w X.xe _ ⟨.bl false, H, I, rfl, h⟩
/-- == of data without dicts -/
def rEqP (K : PySem.W.Frag) : R2 := fun x y H Q => ∃ d e, Dp K H x d ∧ Dp K H y e ∧ d.plain = true ∧ e.plain = true ∧ d.depth ≤ 60 ∧ Q (.bl (PyData.eqv d e)) H
theorem op_eqP (hu : X.A.units + 64 < cLine) : OpR X (compareOp .Eq) (rEqP X.K) := by
  intro pins s σ H x y v u Q I rx ry h
  obtain ⟨d, e, hd, he, sd, se, hz, q⟩ := h
  obtain ⟨as, r1⟩ := Dp.reads I d x v hd rx
  obtain ⟨bs, r2⟩ := Dp.reads I e y u he ry
  exact PySem.SeqAt.rcAt_plain r1 r2 sd se (by have : min d.depth e.depth ≤ d.depth := Nat.min_le_left _ _; omega) X.prog X.w X.xe _ ⟨.bl _, H, I, rfl, q⟩
/-- a sign times a number -/
def rMul1 : R2 := fun x y H Q => ∃ (c n : Nat), x = .str ⟨#[c]⟩ ∧ y = .int (n : Nat) ∧ 1 ≤ n ∧ n ≤ 1000 ∧ Q (.str ⟨(List.replicate n c).toArray⟩) H
theorem rep_fold (c : Nat) : ∀ (n : Nat) (acc : Array Nat), ((List.replicate n #[c]).foldl (· ++ ·) acc).toList = acc.toList ++ List.replicate n c
  | 0, acc => by simp
  | n + 1, acc => by
    rw [List.replicate_succ, List.foldl_cons, rep_fold c n, Array.toList_append, List.replicate_succ, List.append_assoc]
    rfl
theorem mul_one (c n : Nat) (h : 1 ≤ n) : Txt.mul ⟨#[c]⟩ ((n : Nat) : Int) = ⟨(List.replicate n c).toArray⟩ := by
  unfold Txt.mul
  rw [if_neg (by omega)]
  refine TL.ext_tl ?_
  show ((if _ then (⟨#[c]⟩ : Str) else _) : Str).cps.toList = List.replicate n c
  by_cases z : n = 1
  · subst z
    rfl
  · rw [if_neg (by
      intro q
      rcases Bool.or_eq_true_iff.mp q with q | q
      · have := eq_of_beq q
        omega
      · cases q)]
    rw [Int.toNat_natCast]
    show ((List.replicate n #[c]).foldl (· ++ ·) #[]).toList = _
    rw [rep_fold]
    rfl
theorem op_mul1 : OpR X (binaryOp .Mult) rMul1 := by
  intro pins s σ H x y v u Q I rx ry h
  obtain ⟨c, n, rfl, rfl, h1, h2, q⟩ := h
  obtain ⟨t, rfl⟩ := rx
  obtain ⟨t', rfl⟩ := ry
  refine PySem.SB.mul (x := ⟨#[c]⟩) (n := ((n : Nat) : Int)) ⟨?_, fun _ _ => ?_, fun _ _ => ?_⟩ fun t2 k => ?_
  · rw [decide_eq_false (by omega), decide_eq_false (by omega)]
    rfl
  · show ¬ ((1 : Nat) : Int) > (2 ^ 63 - 1) / ((n : Nat) : Int)
    have : (1 : Int) ≤ (2 ^ 63 - 1) / ((n : Nat) : Int) := Int.le_ediv_of_mul_le (by omega) (by omega)
    omega
  · show PySem.Builtin.Str.tooLong (1 * ((n : Nat) : Int).toNat) = false
    rw [Int.toNat_natCast, Nat.one_mul]
    have h3 : (1000 : Nat) ≤ sizeLine := by decide
    exact decide_eq_false (by omega)
  · rw [mul_one c n h1]
    exact ⟨.str _, H, I.tok _, ⟨_, rfl⟩, q⟩
end
end Xe

/-! try: .. except A as n: .. except B as m: .. (any number of clauses, each with its name). -/
namespace Ta
open PySem PySem.Spec PyProof.Rows L2
/-- one clause: the class that it names, the slot of its name, what its suite does -/
structure Hd where
  c : Value
  i : Nat
  ts : Addr → Value → Option Addr → TS
/-- behind a suite its name is gone -/
def Off (D : Ends) (i : Nat) : Ends where
  nx σ H := D.nx (σ.set i none) H
  rt := D.rt
  bk σ H := D.bk (σ.set i none) H
  ct σ H := D.ct (σ.set i none) H
/-- what the clauses ask of an exception that comes out of the body -/
def wish (K : PySem.W.Frag) (W : WX) (D : Ends) : List Hd → WX
  | [] => W
  | h :: r => fun cls d σ H => ∃ y, PySem.W.exmOne K cls h.c = some y ∧
      (y = true → ∀ a, H a = none → h.ts a cls d (Off D h.i) (σ.set h.i (some (.ref a))) H) ∧ (y = false → wish K W D r cls d σ H)
inductive Hds (X : Cx) : List ExceptHandler → List Hd → Prop
  | nil : Hds X [] []
  | cons {h : Hd} {x n : Str} {b₀ : Stmt} {rows : List Stmt} {p q : Pos} {hs : List ExceptHandler} {l : List Hd}
      (hi : X.N[h.i]? = some n) (hl : X.env.kindOf n = some .local) (hc : Names X x h.c)
      (hr : ∀ (a : Addr) (oe : Obj) (cls : Value) (d : Option Addr) (pn : List (Addr × Obj)), Zc cls d oe → (∃ vs, oe.data = .fields vs) →
        PSs (X.suite a ((a, oe) :: pn)) (b₀ :: rows) (h.ts a cls d))
      (t : Hds X hs l) : Hds X (.ExceptHandler (some (.Name x p)) (some n) (b₀ :: rows) q :: hs) (h :: l)
section
variable {X : Cx} {body : List Stmt} {hs : List ExceptHandler} {l : List Hd} {pos : Pos} {tb : WX → TS} {W : WX}
/-- how the body's own end is the whole one's -/
theorem calm_end {pins : List (Addr × Obj)} {D : Ends} {xe : Value → Shared → Prop} (ok : X.Ok) {f : Flow} {s : Shared} (h : SP (X.tr (X.pn ++ pins) xe) [] D f s) : SP X pins D f s := by
  cases f with
  | ret u =>
    obtain ⟨v, σ, H, J, r, q⟩ := h
    exact ⟨v, σ, H, J.ofTry ok, r, q⟩
  | next => obtain ⟨σ, H, J, q⟩ := h; exact ⟨σ, H, J.ofTry ok, q⟩
  | brk => obtain ⟨σ, H, J, q⟩ := h; exact ⟨σ, H, J.ofTry ok, q⟩
  | cont => obtain ⟨σ, H, J, q⟩ := h; exact ⟨σ, H, J.ofTry ok, q⟩
/-- an exception has landed at a: the clauses are asked one behind the other -/
theorem asked {pins : List (Addr × Obj)} {D : Ends} {a : Addr} {B h3 : Heap} {sI s' : Shared} {σ : L2.St} {H : Hp} {cls : Value} {d : Option Addr} (stk : X.stack = X.env :: X.outer) (fr : X.env.frame = some X.env.locals) (nd : X.N.Nodup) (tk : Takes X W)
    (J : Inv X pins σ H sI) (nb : ∀ b o, sI.heap.get? b = some o → b ∉ frs X.stack → B.get? b = some o) (up : sI.heap.UpToSlots s'.heap) (up3 : s'.heap.UpToSlots h3) (na : H a = none) (os : s'.os = sI.os) (ag : AllBare s'.gens)
    (fl : HandSPX.FlyingZ B (X.env :: X.outer) a (Zc cls d) h3) : ∀ {hs : List ExceptHandler} {l : List Hd}, Hds X hs l → wish X.K W D l cls d σ H →
    wpAny (model X.prog X.w) X.A (handleBy (.ref a) X.env hs) (SP X pins D) X.xe { s' with heap := h3 } := by
  have free : ∀ {g : Heap} {o : Obj} {vs : Array Value}, HandSPX.FlyingZ B (X.env :: X.outer) a (Zc cls d) g → g.get? a = some o → o.data = .fields vs → a ≠ X.env.locals ∧ a ∉ X.fs := by
    intro g o vs fg eo ed
    have out : a ∉ frs (X.env :: X.outer) := by
      intro m
      obtain ⟨_, o2, e2, no⟩ := fg.2.2.1.mem m
      cases eo.symm.trans e2
      exact no _ ed
    constructor
    · intro z
      exact out (List.mem_filterMap.mpr ⟨X.env, by simp, by rw [fr, z]⟩)
    · intro m
      obtain ⟨e, me, q⟩ := List.mem_filterMap.mp m
      exact out (List.mem_filterMap.mpr ⟨e, by simp [me], q⟩)
  intro hs l hk
  induction hk with
  | nil =>
    intro hW
    obtain ⟨_, _, _, oe, vs, _, _, _, eo, _, ed, e1, _⟩ := id fl
    refine wpAny_handleBy_nil ?_
    have out : wpAny (model X.prog X.w) X.A (setFlight (.ref a) X.env.frame) (fun _ t => wpAny (model X.prog X.w) X.A (throw (.ref a) : Sem Flow) (SP X pins D) X.xe t) X.xe { s' with heap := h3 } := by
      rw [fr]
      refine HandSPX.setFlight_upZ fl fun g hg ug => ?_
      have sky : Sky B X.stack a (Zc cls d) X.env.locals g := by
        rw [stk]
        exact .inr (.inr hg)
      exact wpAny_throw (tk _ _ ⟨a, B, sI, pins, σ, H, cls, d, rfl, J, nb, (up.trans up3).trans ug, sky, na, os, ag, hW⟩)
    unfold PySem.passOn
    refine wpAny_bind (wpAny_field eo ed e1 ?_)
    rw [if_neg (by simp)]
    first
      | exact wpAny_bind out
      | exact wpAny_bind (wpAny_pure (wpAny_bind out))
  | @cons h x n b₀ rows p q hs l hi hl hc hr t ih =>
    rintro ⟨y, ey, yes, no⟩
    obtain ⟨oe, vs, eo, ez, ed⟩ := fl.there
    obtain ⟨n1, n2⟩ := free fl eo ed
    have J3 := J.landed nb fl.1 (s' := { s' with heap := h3 }) (up.trans up3) os ag
    have S3 := J3.suite eo ed na n1 n2
    have kind : PySem.W.Looks (model X.prog X.w) h3 (typeOf (.ref a)) cls := by
      intro A Q E z k q
      refine wpAny_typeOf_ref (k _ _ eo) ?_
      rw [ez.1]
      exact q
    have one := PySem.W.exm_one (M := model X.prog X.w) J3.kIn kind ey
    refine wpAny_handleBy_cons (codeAny_handlers_test ?_) (by intro z; cases z)
    have name : ∀ {Q E : Value → Shared → Prop}, Q h.c { s' with heap := h3 } → wpAny (model X.prog X.w) (X.A.mark (some (.ref a))) (eval (.Name x p) X.env) Q E { s' with heap := h3 } := by
      intro Q E qq
      rcases hc with ⟨g1, g2, g3 | ⟨g3, g4, g5⟩⟩
      · exact ld_glob (X := X.suite a ((a, oe) :: (X.pn ++ pins))) S3 g1 g3 qq g2
      · exact ld_blt (X := X.suite a ((a, oe) :: (X.pn ++ pins))) S3 g1 g3 g4 qq g5 g2
    refine name (one.here ?_)
    cases y with
    | false => exact ih (no rfl)
    | true =>
      refine codeAny_handlers_suite_as ?_
      refine HandSPX.lands_againZ fl fun g fg ug => ?_
      obtain ⟨oe2, vs2, eo2, ez2, ed2⟩ := fg.there
      obtain ⟨m1, m2⟩ := free fg eo2 ed2
      have J4 := J.landed nb fg.1 (s' := { s' with heap := g }) ((up.trans up3).trans ug) os ag
      refine store_ok (X := X.suite a ((a, oe2) :: (X.pn ++ pins))) (v := .ref a) (J4.suite eo2 ed2 na m1 m2) nd hi (.inl hl) rfl (fun s5 S5 => ?_) (.inr hl)
      have body := (hr a oe2 cls d (X.pn ++ pins) ez2 ⟨_, ed2⟩).run [] s5 _ H _ S5 (yes rfl a na)
      refine wpAny_mono body (fun f s6 end6 => ?_) fun _ _ z => z.elim
      have ok := J.ok
      cases f with
      | ret u =>
        obtain ⟨v6, σ6, H6, S6, r6, q6⟩ := end6
        exact gone_ok (S6.unsuite ok) nd hi hl fun s7 J7 => ⟨_, _, _, J7, r6, q6⟩
      | next =>
        obtain ⟨σ6, H6, S6, q6⟩ := end6
        exact gone_ok (S6.unsuite ok) nd hi hl fun s7 J7 => ⟨_, _, J7, q6⟩
      | brk =>
        obtain ⟨σ6, H6, S6, q6⟩ := end6
        exact gone_ok (S6.unsuite ok) nd hi hl fun s7 J7 => ⟨_, _, J7, q6⟩
      | cont =>
        obtain ⟨σ6, H6, S6, q6⟩ := end6
        exact gone_ok (S6.unsuite ok) nd hi hl fun s7 J7 => ⟨_, _, J7, q6⟩
theorem ps_try_ass {h₀ : ExceptHandler} {h1 : Hd} (stk : X.stack = X.env :: X.outer) (fr : X.env.frame = some X.env.locals) (nd : X.N.Nodup) (tk : Takes X W)
    (hb : ∀ (U : WX) (pn : List (Addr × Obj)) (xe : Value → Shared → Prop), Takes (X.tr pn xe) U → PassesOwn (model X.prog X.w) X.A X.env xe → PSs (X.tr pn xe) body (tb U))
    (hh : Hds X (h₀ :: hs) (h1 :: l)) : PS X (.Try body (h₀ :: hs) [] [] pos) (fun D σ H => tb (wish X.K W D (h1 :: l)) D σ H) := by
  constructor
  intro pins s σ H D I go
  have ok := I.ok
  refine wpAny_Try_except ?_
  have run := (hb (wish X.K W D (h1 :: l)) (X.pn ++ pins) (fun e t1 => wpAny (model X.prog X.w) X.A (noteFrame e X.env) (fun _ t2 =>
    wpAny (model X.prog X.w) X.A (setFlight e none) (fun _ t3 => wpAny (model X.prog X.w) X.A (handleBy e X.env (h₀ :: hs)) (SP X pins D) X.xe t3) X.xe t2) X.xe t1) ?_ PassesOwn.looking).run [] s σ H D (I.toTry _) go
  · refine wpAny_mono run (fun f s1 e1 => ?_) fun _ _ z => z
    have e2 := calm_end ok e1
    cases f with
    | next => exact wpAny_execs_nil e2
    | ret u => exact e2
    | brk => exact e2
    | cont => exact e2
  · intro u s' xx
    obtain ⟨a, B, sI, pins2, σ', H', cls, d, rfl, J', nb, up, sky, na, os, ag, hw⟩ := xx
    have sky2 : Sky B (X.env :: X.outer) a (Zc cls d) X.env.locals s'.heap := by
      rw [← stk]
      exact sky
    show wpAny (model X.prog X.w) X.A (noteFrame (.ref a) X.env) _ _ _
    exact Sky.land Zc.steady (by rw [ok.frames, stk]) fr sky2 fun h3 fl up3 => asked stk fr nd tk (J'.ofTry ok) nb up up3 na os ag fl hh hw
end
end Ta

/-! An own error with one field, BadRing, as the guide's skeleton on own errors gives it. -/
namespace PySem
namespace LowR
open PySem.W PySem.Calls PyProof.Rows PySem.HandSPX
/-! ### the text of __init__ -/
def iA (p1 p2 : Pos) : Arguments := { posonlyargs := [], args := [{ arg := "self", annotation := none, pos := p1 }, { arg := "text", annotation := none, pos := p2 }], vararg := none, kwonlyargs := [], kw_defaults := [], kwarg := none, defaults := [] }
def iB (q1 q2 q3 q4 : Pos) : List Stmt := [.Assign [.Attribute (.Name "self" q1) "text" q2] (.Name "text" q3) q4]
def iS : Scope := { kind := .function, names := [(PySem.Str.ofString "self", .local), (PySem.Str.ofString "text", .local)], isGenerator := false, isCoroutine := false, more := [] }
/-- what the written part says of Low, at C, and of its __init__, at fI -/
structure LowTxt (K : Frag) (mg : Str → Option Value) (C fI : Addr) : Prop where
  gC : mg "BadRing" = some (.ref C)
  cls : ∃ nm q N bs bm sn sub ab col dd k0 k1 k2 k3 k5, K.lookup C = some (excClassObj nm q C N bs bm true sn sub ab col dd k0 k1 k2 k3 k5 "ValueError.__new__") ∧ refsVE bm = true
  sa : findIn K (.ref C) "__setattr__" = some (some (.builtin "object.__setattr__"))
  ga : findIn K (.ref C) "__getattribute__" = some (some (.builtin "BaseException.__getattribute__"))
  gg : findIn K (.ref C) "__getattr__" = some none
  noN : findIn K (.ref C) "text" = some none
  iC : findIn K (.ref C) "__init__" = some (some (.ref fI))
  tC : typeIn K (.ref fI) = some (.type "function")
  kC : keepIn K (.ref C) = true
  exC : subIn K (.ref C) (.type "BaseException") = some true
  tyC : typeIn K (.ref C) = some (.type "type")
  hdC : hasDictIn K C = true
  te : exmOne K (.ref C) (.ref C) = some true
  fn : ∃ (oc : Value) (od : Option Addr) (doc pm : Value) (an : Option Addr) (cdv ct : Value) (osl : Array (Option Value)) (p1 p2 q1 q2 q3 q4 : Pos),
    K.lookup fI = some ⟨oc, od, .func (fnOf "__init__" "BadRing.__init__" (iA p1 p2) (iB q1 q2 q3 q4) iS .none .none doc pm an cdv ct), osl⟩ ∧ codeIn K cdv "BadRing.__init__" = true
theorem one_size (v : Value) : [v].length ≤ sizeLine := by
  rw [sizeLine_eq]
  exact (by decide : 1 ≤ 16777216)
theorem kept_but {K : Frag} {h h' : Heap} {x : Addr} (X : K.In h) (hx : K.lookup x = none) (k : ∀ b o, b ≠ x → h.get? b = some o → h'.get? b = some o) : K.In h' := fun a o e =>
  k a o (fun z => by rw [z, hx] at e; cases e) (X a o e)
theorem ldC {M : Model} {s : Shared} {name : Str} {scope : Scope} {L a : Addr} {cd : Value} {m : Str → Option Value} {x : Str} {pos : Pos} {v : Value} {Q : Value → Shared → Prop} {A : Around} {E : Value → Shared → Prop} (hn : s.heap.Ns L m) (hv : m x = some v) (h : Q v s)
    (hk : scope.kind = .function := by rfl) (hl : (envOfC name scope L a cd).kindOf x = some .local := by rfl) (hd : (x == ("__debug__" : Str)) = false := by decide) :
    wpAny M A (eval (.Name x pos) (envOfC name scope L a cd)) Q E s := wpAny_Name (wpAny_loadName_local hk hl hn hv h) hd
/-- what __init__ leaves of a fresh exception at x -/
structure InitEnd (h h' : Heap) (x C dx t1 : Addr) (v : Value) : Prop where
  keep : ∀ b o, b ≠ x → h.get? b = some o → h'.get? b = some o
  obj : h'.get? x = some { cls := .ref C, dict := some dx, data := .fields #[.ref t1, .none, .none, .none, .bool false, .none] }
  dbig : h.objs.size ≤ dx
  dne : dx ≠ x
  ns : h'.Ns1 dx (fun y => if y = "text" then some v else none)
/-- a made Low -/
structure OwnMade (h h' : Heap) (e C d : Addr) (v : Value) : Prop where
  keep : ∀ b o, h.get? b = some o → h'.get? b = some o
  new : h.objs.size ≤ e
  obj : ∃ oe vs, h'.get? e = some oe ∧ oe.cls = .ref C ∧ oe.dict = some d ∧ oe.data = .fields vs ∧ vs[1]? = some .none
  dbig : h.objs.size ≤ d
  dne : d ≠ e
  ns : h'.Ns1 d (fun y => if y = "text" then some v else none)
section
variable {prog : Program} {w : World} {A : Around} {E : Value → Shared → Prop} {R : Result → Shared → Prop} {s : Shared} {K : Frag} {mg : Str → Option Value} {C fI : Addr}
theorem low_init (T : LowTxt K mg C fI) {x t0 : Addr} {v : Value} (X : K.In s.heap) (hlim : s.heap.NoLimit) (hx : s.heap.get? x = some (excO C t0)) (hnx : K.lookup x = none) (hroom : A.depth < recursionLimit)
    (hq : ∀ h' tk dx, InitEnd s.heap h' x C dx t0 v → R (.ok (.ret .none)) { s with heap := h', toks := tk }) :
    codeAny (model prog w) A (.call (.ref fI) ⟨[.ref x, v], []⟩) R s := by
  obtain ⟨oc, od, doc, pm, an, cdv, ct, osl, p1, p2, q1, q2, q3, q4, ho, hcd⟩ := T.fn
  obtain ⟨nm, q, N, bs, bm, sn, sub, ab, col, dd, k0, k1, k2, k3, k5, hC, hbm⟩ := T.cls
  have hcl : clsIn K C = some { name := nm, bases := bs, mro := .ref C :: bm, ns := N, qualname := q, hasDict := true, slotNames := sn, subclasses := sub, abstract := ab, collection := col, hasDel := false } := by unfold clsIn; rw [hC] <;> rfl
  refine Att.call_fn (binds := [("self", .ref x), ("text", v)]) X hlim ho hcd hroom (BindsTo.of_eq (by first | rfl | with_unfolding_all rfl)) (by first | rfl | decide | with_unfolding_all rfl) (fun s₁ IC => ?_) rfl rfl rfl
  obtain ⟨h₁, tk₁, rfl⟩ := IC.toInCall.same
  have k : ∀ b o, s.heap.get? b = some o → h₁.get? b = some o := IC.toInCall.keep
  have hn := IC.toInCall.ns
  have hxL : s.heap.objs.size ≠ x := Nat.ne_of_gt (Heap.lt_size hx)
  have X₁ : K.In h₁ := X.keeps k
  have hx₁ := k _ _ hx
  -- self.by = by
  show wpAny _ _ (execs _ _) _ _ _
  refine wpAny_execs_cons (plainObj_wpAny_Assign_Attribute ?_)
  refine ldC (v := v) hn (by first | rfl | with_unfolding_all rfl | kernel_rfl) (ldC (v := .ref x) hn (by first | rfl | with_unfolding_all rfl | kernel_rfl) ?_)
  refine set_plain X₁ (ox := excO C t0) (od := none) ⟨hx₁, rfl, rfl, trivial⟩ T.sa ?_
  refine exc_osa X₁ hx₁ hcl (show refsVE (.ref C :: bm) = true from hbm) rfl T.noN (fun h₃ tk₃ dx k₃ dn dne hx₃ hn₃ => ?_)
  show wpAny _ _ (execs _ _) _ _ _
  have z : s.heap.objs.size < h₁.objs.size := hn.lt
  exact wpAny_execs_nil (hq h₃ tk₃ dx ⟨fun b o hb e => k₃ b o hb (k b o e), hx₃, Nat.le_of_lt (Nat.lt_of_lt_of_le z dn), dne, hn₃⟩)
theorem low_made (T : LowTxt K mg C fI) {v : Value} (X : K.In s.heap) (hlim : s.heap.NoLimit) (hroom : A.depth + 1 < recursionLimit)
    (hq : ∀ h' tk e d, OwnMade s.heap h' e C d v → R (.ok (.ret (.ref e))) { s with heap := h', toks := tk }) :
    codeAny (model prog w) A (.call (.ref C) ⟨[v], []⟩) R s := by
  obtain ⟨nm, q, N, bs, bm, sn, sub, ab, col, dd, k0, k1, k2, k3, k5, hC, hbm⟩ := T.cls
  obtain ⟨hp, g, dr, tk, os⟩ := s
  have k : ∀ b o, hp.get? b = some o → ((hp.push (kdv_tup [v])).push (excO C hp.objs.size)).get? b = some o := fun b o e => Heap.get?_push_of_some _ (Heap.get?_push_of_some _ e)
  have hget : ((hp.push (kdv_tup [v])).push (excO C hp.objs.size)).get? (hp.objs.size + 1) = some (excO C hp.objs.size) := by heap_get
  have hnx : K.lookup (hp.objs.size + 1) = none := by
    cases e : K.lookup (hp.objs.size + 1) with
    | none => rfl
    | some o =>
      have z : hp.get? (hp.objs.size + 1) = some o := X _ _ e
      exact absurd (Nat.lt_of_succ_lt (Heap.lt_size z)) (Nat.lt_irrefl _)
  refine call_own F.excBase_ValueError (fun X => refsVE_contains X bm hbm) (X _ _ hC) (looks_findIn X T.iC) (fun self => bind_fn X self T.tC) (one_size v) ?_
  refine low_init (s := ⟨(hp.push (kdv_tup [v])).push (excO C hp.objs.size), g, dr, tk, os⟩) T (X.keeps k) (hlim.keeps k) hget hnx ?_ fun h' tk' dx ⟨k', hx, dn, dne, hns⟩ => ?_
  · show A.depth + 1 < recursionLimit
    exact hroom
  · have old : ∀ b o, hp.get? b = some o → h'.get? b = some o := fun b o e => k' b o (Nat.ne_of_lt (Nat.lt_succ_of_lt (Heap.lt_size e))) (k b o e)
    have z : hp.objs.size + 1 + 1 ≤ dx := by
      first
        | (simpa only [Heap.size_push] using dn)
        | exact dn
        | (have q := dn; rw [Heap.size_push, Heap.size_push] at q; exact q)
    exact ⟨rfl, hq h' tk' (hp.objs.size + 1) dx ⟨old, Nat.le_succ _, ⟨_, _, hx, rfl, rfl, rfl, rfl⟩, Nat.le_trans (Nat.le_trans (Nat.le_succ _) (Nat.le_succ _)) z, dne, hns⟩⟩
end
end LowR
end PySem
namespace L2
open PySem PySem.Spec PyProof.Rows
theorem relO_lowR {v : V} {v' : Value} (r : RelV v v') (f : Str) : RelO (List.lookup f [(("text" : Str), v)]) (if f = "text" then some v' else none) := by
  by_cases hw : f = "text"
  · subst hw
    rw [if_pos rfl]
    have q : List.lookup ("text" : Str) [(("text" : Str), v)] = some v := by simp [List.lookup]
    rw [q]
    exact r
  · rw [if_neg hw]
    have qw : (f == ("text" : Str)) = false := by simpa using hw
    have q2 : List.lookup f [(("text" : Str), v)] = none := by simp [List.lookup, qw]
    rw [q2]
    trivial
section
variable {X : Cx} {C fI : Addr}
/-- Low(e) -/
def tMkLowR (C : Addr) (ta : TA) : St → Hp → XK → Prop := fun σ H Q => ta σ H fun vs H1 => ∃ v, vs = [v] ∧ ∀ d, H1 d = none → Q (.ref C) (some d) (upd H1 d (.xd [(("text" : Str), v)]))
theorem pmk_lowR {a : Expr} {ta : TA} {p pos : Pos} {k : Nat} (T : PySem.LowR.LowTxt X.K X.mg C fI) (hr : Room k X.A) (ha : PA X [a] ta) (hg : Gl X "BadRing" := by rfl)
    (he : starEach (a :: []) X.env = (false, eval a X.env) :: starEach [] X.env := by rfl) (hpl : (backTo pos (starEach [] X.env)).any (·.1) = false := by rfl) :
    PMk X (.Call (.Name "BadRing" p) [a] [] pos) (tMkLowR C ta) := by
  intro pins s σ H Q I h
  refine wpAny_Call_Name_kw (ld_glob I hg T.gC ?_)
  refine PySem.W.callWith_K (h₀ := X.base) I.ok.mod.kin T.kC (thn (ha.run pos pins s σ H _ I h) fun us s1 hh => ?_) he hpl
  obtain ⟨vs, H1, I1, r1, v, ev, q1⟩ := hh
  subst ev
  refine ⟨I1.kIn, ?_⟩
  cases r1 with
  | cons rv rn =>
    rename_i v' us'
    cases rn
    show wpAny _ _ (call (.ref C) [v']) _ _ _
    have hlim := I1.nolimit
    obtain ⟨hp, g, dr, tk, os⟩ := s1
    refine wpAny_call (PySem.LowR.low_made T I1.kIn hlim (by have := hr.dp; omega) fun h' tk' e d M => ?_)
    show MkP X pins σ Q (.ref e) ⟨h', g, dr, tk', os⟩
    obtain ⟨oe, fv, hoe, hc, hd, hdat, h1⟩ := M.obj
    have hns := M.ns
    obtain ⟨G', g1, g2⟩ := restrict h' fun b => decide (b ≠ e)
    have gk : ∀ b, b ≠ e → G'.get? b = h'.get? b := fun b hb => g1 b (decide_eq_true hb)
    have ge : G'.get? e = none := g2 e (by simp)
    have old : ∀ b o, hp.get? b = some o → G'.get? b = some o := fun b o q => (gk b (Nat.ne_of_lt (Nat.lt_of_lt_of_le (Heap.lt_size q) M.new))).trans (M.keep b o q)
    have ob : ObjOk X.prog X.w (upd H1 d (.xd [(("text" : Str), v)])) G' d (.xd [(("text" : Str), v)]) :=
      ⟨_, hns.at (fun o q => (gk d M.dne).trans q), fun f => relO_lowR rv f⟩
    have J : Inv X pins σ (upd H1 d (.xd [(("text" : Str), v)])) ⟨G', g, dr, tk', os⟩ := I1.laid (t' := tk') old M.dbig ob
    refine ⟨e, oe, fv, ⟨G', g, dr, tk', os⟩, _, .ref C, some d, rfl, J, fun b o q => ?_, ge, hoe, ⟨hc, hd⟩, hdat, h1, ?_, rfl, I1.bare, raises_own T.exC T.tyC, q1 d (I1.hok.fresh M.dbig)⟩
    · by_cases hb : b = e
      · have q' : G'.get? b = some o := q
        rw [hb, ge] at q'; cases q'
      · exact (gk b hb).symm.trans q
    · rw [upd_ne (Ne.symm M.dne)]
      exact I1.hok.fresh M.new
/-- raise Low(e) -/
def tRaiseLowR (C : Addr) (W : WX) (ta : TA) : TS := fun _ σ H => tMkLowR C ta σ H fun cls d H' => W cls d σ H'
theorem ps_raiseLowR {a : Expr} {ta : TA} {W : WX} {p pos pos2 : Pos} {k : Nat} (hc : X.calm = true) (T : PySem.LowR.LowTxt X.K X.mg C fI) (hr : Room k X.A) (tk : Takes X W) (ha : PA X [a] ta) (hg : Gl X "BadRing" := by rfl)
    (he : starEach (a :: []) X.env = (false, eval a X.env) :: starEach [] X.env := by rfl) (hpl : (backTo pos (starEach [] X.env)).any (·.1) = false := by rfl) :
    PS X (.Raise (some (.Call (.Name "BadRing" p) [a] [] pos)) none pos2) (tRaiseLowR C W ta) := ps_raise hc tk (pmk_lowR T hr ha hg he hpl)
/-- low.by, low the exception that the suite holds (at a; its class cls, its dict d) -/
def tByLowR (C : Addr) (a : Addr) (cls : Value) (d : Option Addr) (te : TE) : TE := fun σ H Q => te σ H fun x H1 => x = .ref a ∧ cls = .ref C ∧ ∃ (dd : Addr) (v : V), d = some dd ∧ H1 dd = some (.xd [(("text" : Str), v)]) ∧ Q v H1
theorem pe_byLowR {a : Addr} {oe : Obj} {cls : Value} {d : Option Addr} {pn : List (Addr × Obj)} {e : Expr} {te : TE} {pos : Pos} (T : PySem.LowR.LowTxt X.K X.mg C fI) (hz : Zc cls d oe) (hf : ∃ vs, oe.data = .fields vs) (he : PE (X.suite a ((a, oe) :: pn)) e te)
    (hb : attributeBase e "text" X.env (eval e X.env) = eval e X.env := by rfl) :
    PE (X.suite a ((a, oe) :: pn)) (.Attribute e "text" pos) (tByLowR C a cls d te) := by
  refine ⟨fun pins s σ H Q I h => ?_⟩
  refine attr_of hb (thn (he.run pins s σ H _ I h) fun u s1 hh => ?_)
  obtain ⟨x, H1, I1, rx, ex, ec, dd, v, ed, ea, q⟩ := hh
  subst ex
  obtain rfl : u = Value.ref a := rx
  subst ec
  subst ed
  obtain ⟨ha, _⟩ := I1.pin (a, oe) (List.mem_append_left _ List.mem_cons_self)
  obtain ⟨vs, hd⟩ := hf
  have hx : ObjOk X.prog X.w H1 s1.heap dd (.xd [(("text" : Str), v)]) := I1.hok dd _ ea
  obtain ⟨mA, hns, hr⟩ := hx
  obtain ⟨od, ho, hl⟩ := lookIn_ns hns
  have l : List.lookup ("text" : Str) [(("text" : Str), v)] = some v := by simp [List.lookup]
  obtain ⟨u, hu, ru⟩ := RelO.some_of (v := v) (o := mA "text") (by rw [← l]; exact hr "text")
  have J : PySem.W.InstAt s1.heap a oe C (some od) := ⟨ha, hz.1, by unfold PySem.W.notCls; rw [hd] <;> rfl, by rw [hz.2]; exact ho⟩
  exact HandSPX.exc_get I1.kIn J T.ga T.gg T.exC (PySem.W.findObj_own T.hdC T.noN rfl (by rw [hl, hu])) (handed_of ru) ⟨v, H1, I1.tok _, ru, q⟩
end
end L2


/-! An own error with one field, BadFault, as the guide's skeleton on own errors gives it. -/
namespace PySem
namespace LowF
open PySem.W PySem.Calls PyProof.Rows PySem.HandSPX
/-! ### the text of __init__ -/
def iA (p1 p2 : Pos) : Arguments := { posonlyargs := [], args := [{ arg := "self", annotation := none, pos := p1 }, { arg := "fault", annotation := none, pos := p2 }], vararg := none, kwonlyargs := [], kw_defaults := [], kwarg := none, defaults := [] }
def iB (q1 q2 q3 q4 : Pos) : List Stmt := [.Assign [.Attribute (.Name "self" q1) "fault" q2] (.Name "fault" q3) q4]
def iS : Scope := { kind := .function, names := [(PySem.Str.ofString "self", .local), (PySem.Str.ofString "fault", .local)], isGenerator := false, isCoroutine := false, more := [] }
/-- what the written part says of Low, at C, and of its __init__, at fI -/
structure LowTxt (K : Frag) (mg : Str → Option Value) (C fI : Addr) : Prop where
  gC : mg "BadFault" = some (.ref C)
  cls : ∃ nm q N bs bm sn sub ab col dd k0 k1 k2 k3 k5, K.lookup C = some (excClassObj nm q C N bs bm true sn sub ab col dd k0 k1 k2 k3 k5 "ValueError.__new__") ∧ refsVE bm = true
  sa : findIn K (.ref C) "__setattr__" = some (some (.builtin "object.__setattr__"))
  ga : findIn K (.ref C) "__getattribute__" = some (some (.builtin "BaseException.__getattribute__"))
  gg : findIn K (.ref C) "__getattr__" = some none
  noN : findIn K (.ref C) "fault" = some none
  iC : findIn K (.ref C) "__init__" = some (some (.ref fI))
  tC : typeIn K (.ref fI) = some (.type "function")
  kC : keepIn K (.ref C) = true
  exC : subIn K (.ref C) (.type "BaseException") = some true
  tyC : typeIn K (.ref C) = some (.type "type")
  hdC : hasDictIn K C = true
  te : exmOne K (.ref C) (.ref C) = some true
  fn : ∃ (oc : Value) (od : Option Addr) (doc pm : Value) (an : Option Addr) (cdv ct : Value) (osl : Array (Option Value)) (p1 p2 q1 q2 q3 q4 : Pos),
    K.lookup fI = some ⟨oc, od, .func (fnOf "__init__" "BadFault.__init__" (iA p1 p2) (iB q1 q2 q3 q4) iS .none .none doc pm an cdv ct), osl⟩ ∧ codeIn K cdv "BadFault.__init__" = true
theorem one_size (v : Value) : [v].length ≤ sizeLine := by
  rw [sizeLine_eq]
  exact (by decide : 1 ≤ 16777216)
theorem kept_but {K : Frag} {h h' : Heap} {x : Addr} (X : K.In h) (hx : K.lookup x = none) (k : ∀ b o, b ≠ x → h.get? b = some o → h'.get? b = some o) : K.In h' := fun a o e =>
  k a o (fun z => by rw [z, hx] at e; cases e) (X a o e)
theorem ldC {M : Model} {s : Shared} {name : Str} {scope : Scope} {L a : Addr} {cd : Value} {m : Str → Option Value} {x : Str} {pos : Pos} {v : Value} {Q : Value → Shared → Prop} {A : Around} {E : Value → Shared → Prop} (hn : s.heap.Ns L m) (hv : m x = some v) (h : Q v s)
    (hk : scope.kind = .function := by rfl) (hl : (envOfC name scope L a cd).kindOf x = some .local := by rfl) (hd : (x == ("__debug__" : Str)) = false := by decide) :
    wpAny M A (eval (.Name x pos) (envOfC name scope L a cd)) Q E s := wpAny_Name (wpAny_loadName_local hk hl hn hv h) hd
/-- what __init__ leaves of a fresh exception at x -/
structure InitEnd (h h' : Heap) (x C dx t1 : Addr) (v : Value) : Prop where
  keep : ∀ b o, b ≠ x → h.get? b = some o → h'.get? b = some o
  obj : h'.get? x = some { cls := .ref C, dict := some dx, data := .fields #[.ref t1, .none, .none, .none, .bool false, .none] }
  dbig : h.objs.size ≤ dx
  dne : dx ≠ x
  ns : h'.Ns1 dx (fun y => if y = "fault" then some v else none)
/-- a made Low -/
structure OwnMade (h h' : Heap) (e C d : Addr) (v : Value) : Prop where
  keep : ∀ b o, h.get? b = some o → h'.get? b = some o
  new : h.objs.size ≤ e
  obj : ∃ oe vs, h'.get? e = some oe ∧ oe.cls = .ref C ∧ oe.dict = some d ∧ oe.data = .fields vs ∧ vs[1]? = some .none
  dbig : h.objs.size ≤ d
  dne : d ≠ e
  ns : h'.Ns1 d (fun y => if y = "fault" then some v else none)
section
variable {prog : Program} {w : World} {A : Around} {E : Value → Shared → Prop} {R : Result → Shared → Prop} {s : Shared} {K : Frag} {mg : Str → Option Value} {C fI : Addr}
theorem low_init (T : LowTxt K mg C fI) {x t0 : Addr} {v : Value} (X : K.In s.heap) (hlim : s.heap.NoLimit) (hx : s.heap.get? x = some (excO C t0)) (hnx : K.lookup x = none) (hroom : A.depth < recursionLimit)
    (hq : ∀ h' tk dx, InitEnd s.heap h' x C dx t0 v → R (.ok (.ret .none)) { s with heap := h', toks := tk }) :
    codeAny (model prog w) A (.call (.ref fI) ⟨[.ref x, v], []⟩) R s := by
  obtain ⟨oc, od, doc, pm, an, cdv, ct, osl, p1, p2, q1, q2, q3, q4, ho, hcd⟩ := T.fn
  obtain ⟨nm, q, N, bs, bm, sn, sub, ab, col, dd, k0, k1, k2, k3, k5, hC, hbm⟩ := T.cls
  have hcl : clsIn K C = some { name := nm, bases := bs, mro := .ref C :: bm, ns := N, qualname := q, hasDict := true, slotNames := sn, subclasses := sub, abstract := ab, collection := col, hasDel := false } := by unfold clsIn; rw [hC] <;> rfl
  refine Att.call_fn (binds := [("self", .ref x), ("fault", v)]) X hlim ho hcd hroom (BindsTo.of_eq (by first | rfl | with_unfolding_all rfl)) (by first | rfl | decide | with_unfolding_all rfl) (fun s₁ IC => ?_) rfl rfl rfl
  obtain ⟨h₁, tk₁, rfl⟩ := IC.toInCall.same
  have k : ∀ b o, s.heap.get? b = some o → h₁.get? b = some o := IC.toInCall.keep
  have hn := IC.toInCall.ns
  have hxL : s.heap.objs.size ≠ x := Nat.ne_of_gt (Heap.lt_size hx)
  have X₁ : K.In h₁ := X.keeps k
  have hx₁ := k _ _ hx
  -- self.by = by
  show wpAny _ _ (execs _ _) _ _ _
  refine wpAny_execs_cons (plainObj_wpAny_Assign_Attribute ?_)
  refine ldC (v := v) hn (by first | rfl | with_unfolding_all rfl | kernel_rfl) (ldC (v := .ref x) hn (by first | rfl | with_unfolding_all rfl | kernel_rfl) ?_)
  refine set_plain X₁ (ox := excO C t0) (od := none) ⟨hx₁, rfl, rfl, trivial⟩ T.sa ?_
  refine exc_osa X₁ hx₁ hcl (show refsVE (.ref C :: bm) = true from hbm) rfl T.noN (fun h₃ tk₃ dx k₃ dn dne hx₃ hn₃ => ?_)
  show wpAny _ _ (execs _ _) _ _ _
  have z : s.heap.objs.size < h₁.objs.size := hn.lt
  exact wpAny_execs_nil (hq h₃ tk₃ dx ⟨fun b o hb e => k₃ b o hb (k b o e), hx₃, Nat.le_of_lt (Nat.lt_of_lt_of_le z dn), dne, hn₃⟩)
theorem low_made (T : LowTxt K mg C fI) {v : Value} (X : K.In s.heap) (hlim : s.heap.NoLimit) (hroom : A.depth + 1 < recursionLimit)
    (hq : ∀ h' tk e d, OwnMade s.heap h' e C d v → R (.ok (.ret (.ref e))) { s with heap := h', toks := tk }) :
    codeAny (model prog w) A (.call (.ref C) ⟨[v], []⟩) R s := by
  obtain ⟨nm, q, N, bs, bm, sn, sub, ab, col, dd, k0, k1, k2, k3, k5, hC, hbm⟩ := T.cls
  obtain ⟨hp, g, dr, tk, os⟩ := s
  have k : ∀ b o, hp.get? b = some o → ((hp.push (kdv_tup [v])).push (excO C hp.objs.size)).get? b = some o := fun b o e => Heap.get?_push_of_some _ (Heap.get?_push_of_some _ e)
  have hget : ((hp.push (kdv_tup [v])).push (excO C hp.objs.size)).get? (hp.objs.size + 1) = some (excO C hp.objs.size) := by heap_get
  have hnx : K.lookup (hp.objs.size + 1) = none := by
    cases e : K.lookup (hp.objs.size + 1) with
    | none => rfl
    | some o =>
      have z : hp.get? (hp.objs.size + 1) = some o := X _ _ e
      exact absurd (Nat.lt_of_succ_lt (Heap.lt_size z)) (Nat.lt_irrefl _)
  refine call_own F.excBase_ValueError (fun X => refsVE_contains X bm hbm) (X _ _ hC) (looks_findIn X T.iC) (fun self => bind_fn X self T.tC) (one_size v) ?_
  refine low_init (s := ⟨(hp.push (kdv_tup [v])).push (excO C hp.objs.size), g, dr, tk, os⟩) T (X.keeps k) (hlim.keeps k) hget hnx ?_ fun h' tk' dx ⟨k', hx, dn, dne, hns⟩ => ?_
  · show A.depth + 1 < recursionLimit
    exact hroom
  · have old : ∀ b o, hp.get? b = some o → h'.get? b = some o := fun b o e => k' b o (Nat.ne_of_lt (Nat.lt_succ_of_lt (Heap.lt_size e))) (k b o e)
    have z : hp.objs.size + 1 + 1 ≤ dx := by
      first
        | (simpa only [Heap.size_push] using dn)
        | exact dn
        | (have q := dn; rw [Heap.size_push, Heap.size_push] at q; exact q)
    exact ⟨rfl, hq h' tk' (hp.objs.size + 1) dx ⟨old, Nat.le_succ _, ⟨_, _, hx, rfl, rfl, rfl, rfl⟩, Nat.le_trans (Nat.le_trans (Nat.le_succ _) (Nat.le_succ _)) z, dne, hns⟩⟩
end
end LowF
end PySem
namespace L2
open PySem PySem.Spec PyProof.Rows
theorem relO_lowF {v : V} {v' : Value} (r : RelV v v') (f : Str) : RelO (List.lookup f [(("fault" : Str), v)]) (if f = "fault" then some v' else none) := by
  by_cases hw : f = "fault"
  · subst hw
    rw [if_pos rfl]
    have q : List.lookup ("fault" : Str) [(("fault" : Str), v)] = some v := by simp [List.lookup]
    rw [q]
    exact r
  · rw [if_neg hw]
    have qw : (f == ("fault" : Str)) = false := by simpa using hw
    have q2 : List.lookup f [(("fault" : Str), v)] = none := by simp [List.lookup, qw]
    rw [q2]
    trivial
section
variable {X : Cx} {C fI : Addr}
/-- Low(e) -/
def tMkLowF (C : Addr) (ta : TA) : St → Hp → XK → Prop := fun σ H Q => ta σ H fun vs H1 => ∃ v, vs = [v] ∧ ∀ d, H1 d = none → Q (.ref C) (some d) (upd H1 d (.xd [(("fault" : Str), v)]))
theorem pmk_lowF {a : Expr} {ta : TA} {p pos : Pos} {k : Nat} (T : PySem.LowF.LowTxt X.K X.mg C fI) (hr : Room k X.A) (ha : PA X [a] ta) (hg : Gl X "BadFault" := by rfl)
    (he : starEach (a :: []) X.env = (false, eval a X.env) :: starEach [] X.env := by rfl) (hpl : (backTo pos (starEach [] X.env)).any (·.1) = false := by rfl) :
    PMk X (.Call (.Name "BadFault" p) [a] [] pos) (tMkLowF C ta) := by
  intro pins s σ H Q I h
  refine wpAny_Call_Name_kw (ld_glob I hg T.gC ?_)
  refine PySem.W.callWith_K (h₀ := X.base) I.ok.mod.kin T.kC (thn (ha.run pos pins s σ H _ I h) fun us s1 hh => ?_) he hpl
  obtain ⟨vs, H1, I1, r1, v, ev, q1⟩ := hh
  subst ev
  refine ⟨I1.kIn, ?_⟩
  cases r1 with
  | cons rv rn =>
    rename_i v' us'
    cases rn
    show wpAny _ _ (call (.ref C) [v']) _ _ _
    have hlim := I1.nolimit
    obtain ⟨hp, g, dr, tk, os⟩ := s1
    refine wpAny_call (PySem.LowF.low_made T I1.kIn hlim (by have := hr.dp; omega) fun h' tk' e d M => ?_)
    show MkP X pins σ Q (.ref e) ⟨h', g, dr, tk', os⟩
    obtain ⟨oe, fv, hoe, hc, hd, hdat, h1⟩ := M.obj
    have hns := M.ns
    obtain ⟨G', g1, g2⟩ := restrict h' fun b => decide (b ≠ e)
    have gk : ∀ b, b ≠ e → G'.get? b = h'.get? b := fun b hb => g1 b (decide_eq_true hb)
    have ge : G'.get? e = none := g2 e (by simp)
    have old : ∀ b o, hp.get? b = some o → G'.get? b = some o := fun b o q => (gk b (Nat.ne_of_lt (Nat.lt_of_lt_of_le (Heap.lt_size q) M.new))).trans (M.keep b o q)
    have ob : ObjOk X.prog X.w (upd H1 d (.xd [(("fault" : Str), v)])) G' d (.xd [(("fault" : Str), v)]) :=
      ⟨_, hns.at (fun o q => (gk d M.dne).trans q), fun f => relO_lowF rv f⟩
    have J : Inv X pins σ (upd H1 d (.xd [(("fault" : Str), v)])) ⟨G', g, dr, tk', os⟩ := I1.laid (t' := tk') old M.dbig ob
    refine ⟨e, oe, fv, ⟨G', g, dr, tk', os⟩, _, .ref C, some d, rfl, J, fun b o q => ?_, ge, hoe, ⟨hc, hd⟩, hdat, h1, ?_, rfl, I1.bare, raises_own T.exC T.tyC, q1 d (I1.hok.fresh M.dbig)⟩
    · by_cases hb : b = e
      · have q' : G'.get? b = some o := q
        rw [hb, ge] at q'; cases q'
      · exact (gk b hb).symm.trans q
    · rw [upd_ne (Ne.symm M.dne)]
      exact I1.hok.fresh M.new
/-- raise Low(e) -/
def tRaiseLowF (C : Addr) (W : WX) (ta : TA) : TS := fun _ σ H => tMkLowF C ta σ H fun cls d H' => W cls d σ H'
theorem ps_raiseLowF {a : Expr} {ta : TA} {W : WX} {p pos pos2 : Pos} {k : Nat} (hc : X.calm = true) (T : PySem.LowF.LowTxt X.K X.mg C fI) (hr : Room k X.A) (tk : Takes X W) (ha : PA X [a] ta) (hg : Gl X "BadFault" := by rfl)
    (he : starEach (a :: []) X.env = (false, eval a X.env) :: starEach [] X.env := by rfl) (hpl : (backTo pos (starEach [] X.env)).any (·.1) = false := by rfl) :
    PS X (.Raise (some (.Call (.Name "BadFault" p) [a] [] pos)) none pos2) (tRaiseLowF C W ta) := ps_raise hc tk (pmk_lowF T hr ha hg he hpl)
/-- low.by, low the exception that the suite holds (at a; its class cls, its dict d) -/
def tByLowF (C : Addr) (a : Addr) (cls : Value) (d : Option Addr) (te : TE) : TE := fun σ H Q => te σ H fun x H1 => x = .ref a ∧ cls = .ref C ∧ ∃ (dd : Addr) (v : V), d = some dd ∧ H1 dd = some (.xd [(("fault" : Str), v)]) ∧ Q v H1
theorem pe_byLowF {a : Addr} {oe : Obj} {cls : Value} {d : Option Addr} {pn : List (Addr × Obj)} {e : Expr} {te : TE} {pos : Pos} (T : PySem.LowF.LowTxt X.K X.mg C fI) (hz : Zc cls d oe) (hf : ∃ vs, oe.data = .fields vs) (he : PE (X.suite a ((a, oe) :: pn)) e te)
    (hb : attributeBase e "fault" X.env (eval e X.env) = eval e X.env := by rfl) :
    PE (X.suite a ((a, oe) :: pn)) (.Attribute e "fault" pos) (tByLowF C a cls d te) := by
  refine ⟨fun pins s σ H Q I h => ?_⟩
  refine attr_of hb (thn (he.run pins s σ H _ I h) fun u s1 hh => ?_)
  obtain ⟨x, H1, I1, rx, ex, ec, dd, v, ed, ea, q⟩ := hh
  subst ex
  obtain rfl : u = Value.ref a := rx
  subst ec
  subst ed
  obtain ⟨ha, _⟩ := I1.pin (a, oe) (List.mem_append_left _ List.mem_cons_self)
  obtain ⟨vs, hd⟩ := hf
  have hx : ObjOk X.prog X.w H1 s1.heap dd (.xd [(("fault" : Str), v)]) := I1.hok dd _ ea
  obtain ⟨mA, hns, hr⟩ := hx
  obtain ⟨od, ho, hl⟩ := lookIn_ns hns
  have l : List.lookup ("fault" : Str) [(("fault" : Str), v)] = some v := by simp [List.lookup]
  obtain ⟨u, hu, ru⟩ := RelO.some_of (v := v) (o := mA "fault") (by rw [← l]; exact hr "fault")
  have J : PySem.W.InstAt s1.heap a oe C (some od) := ⟨ha, hz.1, by unfold PySem.W.notCls; rw [hd] <;> rfl, by rw [hz.2]; exact ho⟩
  exact HandSPX.exc_get I1.kIn J T.ga T.gg T.exC (PySem.W.findObj_own T.hdC T.noN rfl (by rw [hl, hu])) (handed_of ru) ⟨v, H1, I1.tok _, ru, q⟩
end
end L2


/-! An own error with one field, BadHouse, as the guide's skeleton on own errors gives it. -/
namespace PySem
namespace LowH
open PySem.W PySem.Calls PyProof.Rows PySem.HandSPX
/-! ### the text of __init__ -/
def iA (p1 p2 : Pos) : Arguments := { posonlyargs := [], args := [{ arg := "self", annotation := none, pos := p1 }, { arg := "what", annotation := none, pos := p2 }], vararg := none, kwonlyargs := [], kw_defaults := [], kwarg := none, defaults := [] }
def iB (q1 q2 q3 q4 : Pos) : List Stmt := [.Assign [.Attribute (.Name "self" q1) "what" q2] (.Name "what" q3) q4]
def iS : Scope := { kind := .function, names := [(PySem.Str.ofString "self", .local), (PySem.Str.ofString "what", .local)], isGenerator := false, isCoroutine := false, more := [] }
/-- what the written part says of Low, at C, and of its __init__, at fI -/
structure LowTxt (K : Frag) (mg : Str → Option Value) (C fI : Addr) : Prop where
  gC : mg "BadHouse" = some (.ref C)
  cls : ∃ nm q N bs bm sn sub ab col dd k0 k1 k2 k3 k5, K.lookup C = some (excClassObj nm q C N bs bm true sn sub ab col dd k0 k1 k2 k3 k5 "ValueError.__new__") ∧ refsVE bm = true
  sa : findIn K (.ref C) "__setattr__" = some (some (.builtin "object.__setattr__"))
  ga : findIn K (.ref C) "__getattribute__" = some (some (.builtin "BaseException.__getattribute__"))
  gg : findIn K (.ref C) "__getattr__" = some none
  noN : findIn K (.ref C) "what" = some none
  iC : findIn K (.ref C) "__init__" = some (some (.ref fI))
  tC : typeIn K (.ref fI) = some (.type "function")
  kC : keepIn K (.ref C) = true
  exC : subIn K (.ref C) (.type "BaseException") = some true
  tyC : typeIn K (.ref C) = some (.type "type")
  hdC : hasDictIn K C = true
  te : exmOne K (.ref C) (.ref C) = some true
  fn : ∃ (oc : Value) (od : Option Addr) (doc pm : Value) (an : Option Addr) (cdv ct : Value) (osl : Array (Option Value)) (p1 p2 q1 q2 q3 q4 : Pos),
    K.lookup fI = some ⟨oc, od, .func (fnOf "__init__" "BadHouse.__init__" (iA p1 p2) (iB q1 q2 q3 q4) iS .none .none doc pm an cdv ct), osl⟩ ∧ codeIn K cdv "BadHouse.__init__" = true
theorem one_size (v : Value) : [v].length ≤ sizeLine := by
  rw [sizeLine_eq]
  exact (by decide : 1 ≤ 16777216)
theorem kept_but {K : Frag} {h h' : Heap} {x : Addr} (X : K.In h) (hx : K.lookup x = none) (k : ∀ b o, b ≠ x → h.get? b = some o → h'.get? b = some o) : K.In h' := fun a o e =>
  k a o (fun z => by rw [z, hx] at e; cases e) (X a o e)
theorem ldC {M : Model} {s : Shared} {name : Str} {scope : Scope} {L a : Addr} {cd : Value} {m : Str → Option Value} {x : Str} {pos : Pos} {v : Value} {Q : Value → Shared → Prop} {A : Around} {E : Value → Shared → Prop} (hn : s.heap.Ns L m) (hv : m x = some v) (h : Q v s)
    (hk : scope.kind = .function := by rfl) (hl : (envOfC name scope L a cd).kindOf x = some .local := by rfl) (hd : (x == ("__debug__" : Str)) = false := by decide) :
    wpAny M A (eval (.Name x pos) (envOfC name scope L a cd)) Q E s := wpAny_Name (wpAny_loadName_local hk hl hn hv h) hd
/-- what __init__ leaves of a fresh exception at x -/
structure InitEnd (h h' : Heap) (x C dx t1 : Addr) (v : Value) : Prop where
  keep : ∀ b o, b ≠ x → h.get? b = some o → h'.get? b = some o
  obj : h'.get? x = some { cls := .ref C, dict := some dx, data := .fields #[.ref t1, .none, .none, .none, .bool false, .none] }
  dbig : h.objs.size ≤ dx
  dne : dx ≠ x
  ns : h'.Ns1 dx (fun y => if y = "what" then some v else none)
/-- a made Low -/
structure OwnMade (h h' : Heap) (e C d : Addr) (v : Value) : Prop where
  keep : ∀ b o, h.get? b = some o → h'.get? b = some o
  new : h.objs.size ≤ e
  obj : ∃ oe vs, h'.get? e = some oe ∧ oe.cls = .ref C ∧ oe.dict = some d ∧ oe.data = .fields vs ∧ vs[1]? = some .none
  dbig : h.objs.size ≤ d
  dne : d ≠ e
  ns : h'.Ns1 d (fun y => if y = "what" then some v else none)
section
variable {prog : Program} {w : World} {A : Around} {E : Value → Shared → Prop} {R : Result → Shared → Prop} {s : Shared} {K : Frag} {mg : Str → Option Value} {C fI : Addr}
theorem low_init (T : LowTxt K mg C fI) {x t0 : Addr} {v : Value} (X : K.In s.heap) (hlim : s.heap.NoLimit) (hx : s.heap.get? x = some (excO C t0)) (hnx : K.lookup x = none) (hroom : A.depth < recursionLimit)
    (hq : ∀ h' tk dx, InitEnd s.heap h' x C dx t0 v → R (.ok (.ret .none)) { s with heap := h', toks := tk }) :
    codeAny (model prog w) A (.call (.ref fI) ⟨[.ref x, v], []⟩) R s := by
  obtain ⟨oc, od, doc, pm, an, cdv, ct, osl, p1, p2, q1, q2, q3, q4, ho, hcd⟩ := T.fn
  obtain ⟨nm, q, N, bs, bm, sn, sub, ab, col, dd, k0, k1, k2, k3, k5, hC, hbm⟩ := T.cls
  have hcl : clsIn K C = some { name := nm, bases := bs, mro := .ref C :: bm, ns := N, qualname := q, hasDict := true, slotNames := sn, subclasses := sub, abstract := ab, collection := col, hasDel := false } := by unfold clsIn; rw [hC] <;> rfl
  refine Att.call_fn (binds := [("self", .ref x), ("what", v)]) X hlim ho hcd hroom (BindsTo.of_eq (by first | rfl | with_unfolding_all rfl)) (by first | rfl | decide | with_unfolding_all rfl) (fun s₁ IC => ?_) rfl rfl rfl
  obtain ⟨h₁, tk₁, rfl⟩ := IC.toInCall.same
  have k : ∀ b o, s.heap.get? b = some o → h₁.get? b = some o := IC.toInCall.keep
  have hn := IC.toInCall.ns
  have hxL : s.heap.objs.size ≠ x := Nat.ne_of_gt (Heap.lt_size hx)
  have X₁ : K.In h₁ := X.keeps k
  have hx₁ := k _ _ hx
  -- self.by = by
  show wpAny _ _ (execs _ _) _ _ _
  refine wpAny_execs_cons (plainObj_wpAny_Assign_Attribute ?_)
  refine ldC (v := v) hn (by first | rfl | with_unfolding_all rfl | kernel_rfl) (ldC (v := .ref x) hn (by first | rfl | with_unfolding_all rfl | kernel_rfl) ?_)
  refine set_plain X₁ (ox := excO C t0) (od := none) ⟨hx₁, rfl, rfl, trivial⟩ T.sa ?_
  refine exc_osa X₁ hx₁ hcl (show refsVE (.ref C :: bm) = true from hbm) rfl T.noN (fun h₃ tk₃ dx k₃ dn dne hx₃ hn₃ => ?_)
  show wpAny _ _ (execs _ _) _ _ _
  have z : s.heap.objs.size < h₁.objs.size := hn.lt
  exact wpAny_execs_nil (hq h₃ tk₃ dx ⟨fun b o hb e => k₃ b o hb (k b o e), hx₃, Nat.le_of_lt (Nat.lt_of_lt_of_le z dn), dne, hn₃⟩)
theorem low_made (T : LowTxt K mg C fI) {v : Value} (X : K.In s.heap) (hlim : s.heap.NoLimit) (hroom : A.depth + 1 < recursionLimit)
    (hq : ∀ h' tk e d, OwnMade s.heap h' e C d v → R (.ok (.ret (.ref e))) { s with heap := h', toks := tk }) :
    codeAny (model prog w) A (.call (.ref C) ⟨[v], []⟩) R s := by
  obtain ⟨nm, q, N, bs, bm, sn, sub, ab, col, dd, k0, k1, k2, k3, k5, hC, hbm⟩ := T.cls
  obtain ⟨hp, g, dr, tk, os⟩ := s
  have k : ∀ b o, hp.get? b = some o → ((hp.push (kdv_tup [v])).push (excO C hp.objs.size)).get? b = some o := fun b o e => Heap.get?_push_of_some _ (Heap.get?_push_of_some _ e)
  have hget : ((hp.push (kdv_tup [v])).push (excO C hp.objs.size)).get? (hp.objs.size + 1) = some (excO C hp.objs.size) := by heap_get
  have hnx : K.lookup (hp.objs.size + 1) = none := by
    cases e : K.lookup (hp.objs.size + 1) with
    | none => rfl
    | some o =>
      have z : hp.get? (hp.objs.size + 1) = some o := X _ _ e
      exact absurd (Nat.lt_of_succ_lt (Heap.lt_size z)) (Nat.lt_irrefl _)
  refine call_own F.excBase_ValueError (fun X => refsVE_contains X bm hbm) (X _ _ hC) (looks_findIn X T.iC) (fun self => bind_fn X self T.tC) (one_size v) ?_
  refine low_init (s := ⟨(hp.push (kdv_tup [v])).push (excO C hp.objs.size), g, dr, tk, os⟩) T (X.keeps k) (hlim.keeps k) hget hnx ?_ fun h' tk' dx ⟨k', hx, dn, dne, hns⟩ => ?_
  · show A.depth + 1 < recursionLimit
    exact hroom
  · have old : ∀ b o, hp.get? b = some o → h'.get? b = some o := fun b o e => k' b o (Nat.ne_of_lt (Nat.lt_succ_of_lt (Heap.lt_size e))) (k b o e)
    have z : hp.objs.size + 1 + 1 ≤ dx := by
      first
        | (simpa only [Heap.size_push] using dn)
        | exact dn
        | (have q := dn; rw [Heap.size_push, Heap.size_push] at q; exact q)
    exact ⟨rfl, hq h' tk' (hp.objs.size + 1) dx ⟨old, Nat.le_succ _, ⟨_, _, hx, rfl, rfl, rfl, rfl⟩, Nat.le_trans (Nat.le_trans (Nat.le_succ _) (Nat.le_succ _)) z, dne, hns⟩⟩
end
end LowH
end PySem
namespace L2
open PySem PySem.Spec PyProof.Rows
theorem relO_lowH {v : V} {v' : Value} (r : RelV v v') (f : Str) : RelO (List.lookup f [(("what" : Str), v)]) (if f = "what" then some v' else none) := by
  by_cases hw : f = "what"
  · subst hw
    rw [if_pos rfl]
    have q : List.lookup ("what" : Str) [(("what" : Str), v)] = some v := by simp [List.lookup]
    rw [q]
    exact r
  · rw [if_neg hw]
    have qw : (f == ("what" : Str)) = false := by simpa using hw
    have q2 : List.lookup f [(("what" : Str), v)] = none := by simp [List.lookup, qw]
    rw [q2]
    trivial
section
variable {X : Cx} {C fI : Addr}
/-- Low(e) -/
def tMkLowH (C : Addr) (ta : TA) : St → Hp → XK → Prop := fun σ H Q => ta σ H fun vs H1 => ∃ v, vs = [v] ∧ ∀ d, H1 d = none → Q (.ref C) (some d) (upd H1 d (.xd [(("what" : Str), v)]))
theorem pmk_lowH {a : Expr} {ta : TA} {p pos : Pos} {k : Nat} (T : PySem.LowH.LowTxt X.K X.mg C fI) (hr : Room k X.A) (ha : PA X [a] ta) (hg : Gl X "BadHouse" := by rfl)
    (he : starEach (a :: []) X.env = (false, eval a X.env) :: starEach [] X.env := by rfl) (hpl : (backTo pos (starEach [] X.env)).any (·.1) = false := by rfl) :
    PMk X (.Call (.Name "BadHouse" p) [a] [] pos) (tMkLowH C ta) := by
  intro pins s σ H Q I h
  refine wpAny_Call_Name_kw (ld_glob I hg T.gC ?_)
  refine PySem.W.callWith_K (h₀ := X.base) I.ok.mod.kin T.kC (thn (ha.run pos pins s σ H _ I h) fun us s1 hh => ?_) he hpl
  obtain ⟨vs, H1, I1, r1, v, ev, q1⟩ := hh
  subst ev
  refine ⟨I1.kIn, ?_⟩
  cases r1 with
  | cons rv rn =>
    rename_i v' us'
    cases rn
    show wpAny _ _ (call (.ref C) [v']) _ _ _
    have hlim := I1.nolimit
    obtain ⟨hp, g, dr, tk, os⟩ := s1
    refine wpAny_call (PySem.LowH.low_made T I1.kIn hlim (by have := hr.dp; omega) fun h' tk' e d M => ?_)
    show MkP X pins σ Q (.ref e) ⟨h', g, dr, tk', os⟩
    obtain ⟨oe, fv, hoe, hc, hd, hdat, h1⟩ := M.obj
    have hns := M.ns
    obtain ⟨G', g1, g2⟩ := restrict h' fun b => decide (b ≠ e)
    have gk : ∀ b, b ≠ e → G'.get? b = h'.get? b := fun b hb => g1 b (decide_eq_true hb)
    have ge : G'.get? e = none := g2 e (by simp)
    have old : ∀ b o, hp.get? b = some o → G'.get? b = some o := fun b o q => (gk b (Nat.ne_of_lt (Nat.lt_of_lt_of_le (Heap.lt_size q) M.new))).trans (M.keep b o q)
    have ob : ObjOk X.prog X.w (upd H1 d (.xd [(("what" : Str), v)])) G' d (.xd [(("what" : Str), v)]) :=
      ⟨_, hns.at (fun o q => (gk d M.dne).trans q), fun f => relO_lowH rv f⟩
    have J : Inv X pins σ (upd H1 d (.xd [(("what" : Str), v)])) ⟨G', g, dr, tk', os⟩ := I1.laid (t' := tk') old M.dbig ob
    refine ⟨e, oe, fv, ⟨G', g, dr, tk', os⟩, _, .ref C, some d, rfl, J, fun b o q => ?_, ge, hoe, ⟨hc, hd⟩, hdat, h1, ?_, rfl, I1.bare, raises_own T.exC T.tyC, q1 d (I1.hok.fresh M.dbig)⟩
    · by_cases hb : b = e
      · have q' : G'.get? b = some o := q
        rw [hb, ge] at q'; cases q'
      · exact (gk b hb).symm.trans q
    · rw [upd_ne (Ne.symm M.dne)]
      exact I1.hok.fresh M.new
/-- raise Low(e) -/
def tRaiseLowH (C : Addr) (W : WX) (ta : TA) : TS := fun _ σ H => tMkLowH C ta σ H fun cls d H' => W cls d σ H'
theorem ps_raiseLowH {a : Expr} {ta : TA} {W : WX} {p pos pos2 : Pos} {k : Nat} (hc : X.calm = true) (T : PySem.LowH.LowTxt X.K X.mg C fI) (hr : Room k X.A) (tk : Takes X W) (ha : PA X [a] ta) (hg : Gl X "BadHouse" := by rfl)
    (he : starEach (a :: []) X.env = (false, eval a X.env) :: starEach [] X.env := by rfl) (hpl : (backTo pos (starEach [] X.env)).any (·.1) = false := by rfl) :
    PS X (.Raise (some (.Call (.Name "BadHouse" p) [a] [] pos)) none pos2) (tRaiseLowH C W ta) := ps_raise hc tk (pmk_lowH T hr ha hg he hpl)
/-- low.by, low the exception that the suite holds (at a; its class cls, its dict d) -/
def tByLowH (C : Addr) (a : Addr) (cls : Value) (d : Option Addr) (te : TE) : TE := fun σ H Q => te σ H fun x H1 => x = .ref a ∧ cls = .ref C ∧ ∃ (dd : Addr) (v : V), d = some dd ∧ H1 dd = some (.xd [(("what" : Str), v)]) ∧ Q v H1
theorem pe_byLowH {a : Addr} {oe : Obj} {cls : Value} {d : Option Addr} {pn : List (Addr × Obj)} {e : Expr} {te : TE} {pos : Pos} (T : PySem.LowH.LowTxt X.K X.mg C fI) (hz : Zc cls d oe) (hf : ∃ vs, oe.data = .fields vs) (he : PE (X.suite a ((a, oe) :: pn)) e te)
    (hb : attributeBase e "what" X.env (eval e X.env) = eval e X.env := by rfl) :
    PE (X.suite a ((a, oe) :: pn)) (.Attribute e "what" pos) (tByLowH C a cls d te) := by
  refine ⟨fun pins s σ H Q I h => ?_⟩
  refine attr_of hb (thn (he.run pins s σ H _ I h) fun u s1 hh => ?_)
  obtain ⟨x, H1, I1, rx, ex, ec, dd, v, ed, ea, q⟩ := hh
  subst ex
  obtain rfl : u = Value.ref a := rx
  subst ec
  subst ed
  obtain ⟨ha, _⟩ := I1.pin (a, oe) (List.mem_append_left _ List.mem_cons_self)
  obtain ⟨vs, hd⟩ := hf
  have hx : ObjOk X.prog X.w H1 s1.heap dd (.xd [(("what" : Str), v)]) := I1.hok dd _ ea
  obtain ⟨mA, hns, hr⟩ := hx
  obtain ⟨od, ho, hl⟩ := lookIn_ns hns
  have l : List.lookup ("what" : Str) [(("what" : Str), v)] = some v := by simp [List.lookup]
  obtain ⟨u, hu, ru⟩ := RelO.some_of (v := v) (o := mA "what") (by rw [← l]; exact hr "what")
  have J : PySem.W.InstAt s1.heap a oe C (some od) := ⟨ha, hz.1, by unfold PySem.W.notCls; rw [hd] <;> rfl, by rw [hz.2]; exact ho⟩
  exact HandSPX.exc_get I1.kIn J T.ga T.gg T.exC (PySem.W.findObj_own T.hdC T.noN rfl (by rw [hl, hu])) (handed_of ru) ⟨v, H1, I1.tok _, ru, q⟩
end
end L2


/-! Least lots of faults of a ring: any lot that silences has one or two that do. -/
namespace Lo
open PySem L2 TL Rm
def sil (l : List Bool) (n : Nat) (fs : List Ft) : Bool := decide ((heardL l (opn l fs)).length < n)
theorem opn_sub {l : List Bool} {fs gs : List Ft} (h : ∀ f ∈ fs, f ∈ gs) (k : Nat) (o : opn l gs k = true) : opn l fs k = true := by
  unfold opn at *
  exact List.all_eq_true.mpr fun f m => List.all_eq_true.mp o f (h f m)
theorem heard_le {l : List Bool} {op op2 : Nat → Bool} (h : ∀ j, (pL l op j || pR l op j) = true → (pL l op2 j || pR l op2 j) = true) : (heardL l op).length ≤ (heardL l op2).length := by
  unfold heardL
  induction List.range (l.count true) with
  | nil => exact Nat.le_refl _
  | cons j r ih =>
    rw [List.filter_cons, List.filter_cons]
    by_cases c : (pL l op j || pR l op j) = true
    · rw [if_pos c, if_pos (h j c)]
      simpa using ih
    · rw [if_neg c]
      split
      · exact Nat.le_succ_of_le ih
      · exact ih
theorem sil_mono {l : List Bool} {n : Nat} {fs gs : List Ft} (h : ∀ f ∈ fs, f ∈ gs) (s : sil l n fs = true) : sil l n gs = true := by
  unfold sil at *
  have a := of_decide_eq_true s
  refine decide_eq_true (Nat.lt_of_le_of_lt (heard_le fun j z => ?_) a)
  rcases Bool.or_eq_true_iff.mp z with z | z
  · exact Bool.or_eq_true_iff.mpr (.inl (List.all_eq_true.mpr fun x mx => opn_sub h x (List.all_eq_true.mp z x mx)))
  · exact Bool.or_eq_true_iff.mpr (.inr (List.all_eq_true.mpr fun x mx => opn_sub h x (List.all_eq_true.mp z x mx)))
theorem heard_nil (l : List Bool) : heardL l (opn l []) = List.range (l.count true) := by
  unfold heardL
  refine List.filter_eq_self.mpr fun j _ => Bool.or_eq_true_iff.mpr (.inl (List.all_eq_true.mpr fun _ _ => rfl))
theorem sil_nil {l : List Bool} {n : Nat} (h : n ≤ l.count true) : sil l n [] = false := by
  unfold sil
  rw [heard_nil, List.length_range]
  exact decide_eq_false (by omega)
/-- the least and the greatest closed stretch -/
theorem least {p : Nat → Bool} : ∀ n, (∃ k, k ≤ n ∧ p k = false) → ∃ i, i ≤ n ∧ p i = false ∧ ∀ k, k < i → p k = true
  | 0, ⟨k, hk, h⟩ => ⟨0, Nat.le_refl _, by rw [← Nat.le_zero.mp hk]; exact h, fun k l => absurd l (Nat.not_lt_zero k)⟩
  | n + 1, ⟨k, hk, h⟩ => by
    by_cases c : ∃ k, k ≤ n ∧ p k = false
    · obtain ⟨i, a, b, d⟩ := least n c
      exact ⟨i, by omega, b, d⟩
    · have e : ∀ k, k ≤ n → p k = true := fun k hk => by
        cases q : p k with
        | true => rfl
        | false => exact absurd ⟨k, hk, q⟩ c
      have : k = n + 1 := by
        by_cases c2 : k ≤ n
        · rw [e k c2] at h; cases h
        · omega
      subst this
      exact ⟨n + 1, Nat.le_refl _, h, fun k l => e k (by omega)⟩
theorem great {p : Nat → Bool} : ∀ n, (∃ k, k ≤ n ∧ p k = false) → ∃ i, i ≤ n ∧ p i = false ∧ ∀ k, i < k → k ≤ n → p k = true
  | 0, ⟨k, hk, h⟩ => ⟨0, Nat.le_refl _, by rw [← Nat.le_zero.mp hk]; exact h, fun k l l2 => by omega⟩
  | n + 1, ⟨k, hk, h⟩ => by
    cases c : p (n + 1) with
    | false => exact ⟨n + 1, Nat.le_refl _, c, fun k l l2 => by omega⟩
    | true =>
      have hk' : k ≤ n := by
        by_cases c2 : k ≤ n
        · exact c2
        · have : k = n + 1 := by omega
          rw [this, c] at h
          cases h
      obtain ⟨i, a, b, d⟩ := great n ⟨k, hk', h⟩
      refine ⟨i, by omega, b, fun k l l2 => ?_⟩
      by_cases e : k ≤ n
      · exact d k l e
      · rw [show k = n + 1 by omega]
        exact c
theorem closer {l : List Bool} {fs : List Ft} {k : Nat} (h : opn l fs k = false) : ∃ f ∈ fs, ∀ gs : List Ft, f ∈ gs → opn l gs k = false := by
  unfold opn at h
  obtain ⟨f, m, e⟩ := List.all_eq_false.mp h
  refine ⟨f, m, fun gs mg => ?_⟩
  unfold opn
  exact List.all_eq_false.mpr ⟨f, mg, e⟩
theorem sil_two {l : List Bool} {n : Nat} {fs : List Ft} (hl : ∀ f ∈ fs, f.2 ≤ l.length) (ne : fs ≠ []) (s : sil l n fs = true) : ∃ f ∈ fs, ∃ g ∈ fs, sil l n [f, g] = true := by
  have ex : ∃ k, k ≤ l.length ∧ opn l fs k = false := by
    obtain ⟨f, r, rfl⟩ := List.exists_cons_of_ne_nil ne
    refine ⟨f.2, hl f List.mem_cons_self, ?_⟩
    unfold opn
    refine List.all_eq_false.mpr ⟨f, List.mem_cons_self, ?_⟩
    cases f.1 <;> simp
  obtain ⟨i, hi, ei, a⟩ := least _ ex
  obtain ⟨k, hk, ek, b⟩ := great _ ex
  obtain ⟨f, mf, cf⟩ := closer ei
  obtain ⟨g, mg, cg⟩ := closer ek
  refine ⟨f, mf, g, mg, ?_⟩
  have c1 := cf [f, g] List.mem_cons_self
  have c2 := cg [f, g] (List.mem_cons_of_mem _ List.mem_cons_self)
  unfold sil at *
  refine decide_eq_true (Nat.lt_of_le_of_lt (heard_le fun j z => ?_) (of_decide_eq_true s))
  rcases Bool.or_eq_true_iff.mp z with z | z
  · refine Bool.or_eq_true_iff.mpr (.inl (List.all_eq_true.mpr fun x mx => a x ?_))
    have mx := List.mem_range.mp mx
    by_cases q : i ≤ spo l j
    · have := List.all_eq_true.mp z i (List.mem_range.mpr (by omega))
      rw [c1] at this
      cases this
    · omega
  · refine Bool.or_eq_true_iff.mpr (.inr (List.all_eq_true.mpr fun x mx => ?_))
    have mx := List.mem_range'_1.mp mx
    by_cases q : spo l j + 1 ≤ k
    · have := List.all_eq_true.mp z k (List.mem_range'_1.mpr (by omega))
      rw [c2] at this
      cases this
    · exact b x (by omega) (by omega)
def allF (n : Nat) : List Ft := (List.range n).flatMap fun k => [(true, k), (false, k)]
theorem allF_mem {n : Nat} {f : Ft} : f ∈ allF n ↔ f.2 < n := by
  unfold allF
  rw [List.mem_flatMap]
  constructor
  · rintro ⟨k, mk, m⟩
    have := List.mem_range.mp mk
    rcases List.mem_cons.mp m with rfl | m
    · exact this
    · rw [List.mem_singleton.mp m]
      exact this
  · intro h
    refine ⟨f.2, List.mem_range.mpr h, ?_⟩
    obtain ⟨b, k⟩ := f
    cases b <;> simp
def singles (l : List Bool) (n : Nat) : List Ft := (allF (l.length + 1)).filter fun f => sil l n [f]
def others (l : List Bool) (n : Nat) : List Ft := (allF (l.length + 1)).filter fun f => !decide (f ∈ singles l n)
def prs (l : List Bool) (n : Nat) : List Ft → List (List Ft)
  | [] => []
  | f :: r => (r.filter fun g => sil l n [f, g]).map (fun g => [f, g]) ++ prs l n r
def lots (l : List Bool) (n : Nat) : List (List Ft) := (singles l n).map (fun f => [f]) ++ prs l n (others l n)
theorem prs_sil {l : List Bool} {n : Nat} : ∀ {os : List Ft} {lot : List Ft}, lot ∈ prs l n os → ∃ f g, lot = [f, g] ∧ f ∈ os ∧ g ∈ os ∧ sil l n [f, g] = true
  | f :: r, lot, m => by
    rcases List.mem_append.mp m with m | m
    · obtain ⟨g, mg, rfl⟩ := List.mem_map.mp m
      obtain ⟨m1, m2⟩ := List.mem_filter.mp mg
      exact ⟨f, g, rfl, List.mem_cons_self, List.mem_cons_of_mem _ m1, m2⟩
    · obtain ⟨f2, g, e, a, b, c⟩ := prs_sil m
      exact ⟨f2, g, e, List.mem_cons_of_mem _ a, List.mem_cons_of_mem _ b, c⟩
theorem prs_has {l : List Bool} {n : Nat} : ∀ {os : List Ft} {f g : Ft}, f ∈ os → g ∈ os → f ≠ g → sil l n [f, g] = true → [f, g] ∈ prs l n os ∨ [g, f] ∈ prs l n os
  | x :: r, f, g, mf, mg, ne, s => by
    have s2 : sil l n [g, f] = true := sil_mono (fun y m => by simp at m ⊢; rcases m with rfl | rfl <;> simp) s
    rcases List.mem_cons.mp mf with rfl | mf2
    · rcases List.mem_cons.mp mg with rfl | mg2
      · exact absurd rfl ne
      · exact .inl (List.mem_append.mpr (.inl (List.mem_map.mpr ⟨g, List.mem_filter.mpr ⟨mg2, s⟩, rfl⟩)))
    · rcases List.mem_cons.mp mg with rfl | mg2
      · exact .inr (List.mem_append.mpr (.inl (List.mem_map.mpr ⟨f, List.mem_filter.mpr ⟨mf2, s2⟩, rfl⟩)))
      · exact (prs_has mf2 mg2 ne s).imp (fun z => List.mem_append.mpr (.inr z)) fun z => List.mem_append.mpr (.inr z)
theorem lots_sil {l : List Bool} {n : Nat} {lot : List Ft} (m : lot ∈ lots l n) : sil l n lot = true := by
  rcases List.mem_append.mp m with m | m
  · obtain ⟨f, mf, rfl⟩ := List.mem_map.mp m
    exact (List.mem_filter.mp mf).2
  · obtain ⟨f, g, rfl, _, _, s⟩ := prs_sil m
    exact s
theorem lots_iff {l : List Bool} {n : Nat} {fs : List Ft} (hl : ∀ f ∈ fs, f.2 ≤ l.length) (hn : n ≤ l.count true) : sil l n fs = true ↔ ∃ lot ∈ lots l n, ∀ f ∈ lot, f ∈ fs := by
  constructor
  · intro s
    have ne : fs ≠ [] := fun e => by rw [e, sil_nil hn] at s; cases s
    obtain ⟨f, mf, g, mg, s2⟩ := sil_two hl ne s
    have af : f ∈ allF (l.length + 1) := allF_mem.mpr (by have := hl f mf; omega)
    have ag : g ∈ allF (l.length + 1) := allF_mem.mpr (by have := hl g mg; omega)
    cases c1 : sil l n [f] with
    | true => exact ⟨[f], List.mem_append.mpr (.inl (List.mem_map.mpr ⟨f, List.mem_filter.mpr ⟨af, c1⟩, rfl⟩)), fun x m => by rw [List.mem_singleton.mp m]; exact mf⟩
    | false =>
      cases c2 : sil l n [g] with
      | true => exact ⟨[g], List.mem_append.mpr (.inl (List.mem_map.mpr ⟨g, List.mem_filter.mpr ⟨ag, c2⟩, rfl⟩)), fun x m => by rw [List.mem_singleton.mp m]; exact mg⟩
      | false =>
        have of : f ∈ others l n := List.mem_filter.mpr ⟨af, by rw [decide_eq_false fun z => by rw [(List.mem_filter.mp z).2] at c1; cases c1]; rfl⟩
        have og : g ∈ others l n := List.mem_filter.mpr ⟨ag, by rw [decide_eq_false fun z => by rw [(List.mem_filter.mp z).2] at c2; cases c2]; rfl⟩
        have ne2 : f ≠ g := fun e => by
          subst e
          rw [sil_mono (fs := [f, f]) (gs := [f]) (fun y m => by simpa using m) s2] at c1
          cases c1
        rcases prs_has of og ne2 s2 with z | z
        · exact ⟨_, List.mem_append.mpr (.inr z), fun x m => by
            rcases List.mem_cons.mp m with rfl | m
            · exact mf
            · rw [List.mem_singleton.mp m]; exact mg⟩
        · exact ⟨_, List.mem_append.mpr (.inr z), fun x m => by
            rcases List.mem_cons.mp m with rfl | m
            · exact mg
            · rw [List.mem_singleton.mp m]; exact mf⟩
  · rintro ⟨lot, m, h⟩
    exact sil_mono h (lots_sil m)
end Lo

/-! xs > ys, lists of ints. -/
namespace Gtl
open PySem PySem.Spec PyProof.Rows L2
def gtI (ns ms : List Int) : Bool := SeqAt.firstLt (fun j => decide (ns.getD j 0 = ms.getD j 0)) (fun j => decide (ms.getD j 0 < ns.getD j 0)) (decide (ns.length > ms.length)) (List.range (min ns.length ms.length))
def rGtL (K : PySem.W.Frag) : R2 := fun x y H Q => ∃ (a b : Addr) (ns ms : List Int), x = .ref a ∧ y = .ref b ∧ SqL K H a (ns.map V.int) ∧ SqL K H b (ms.map V.int) ∧ Q (.bl (gtI ns ms)) H
theorem op_gtL {X : Cx} (hu : X.A.units < cLine) : OpR X (compareOp .Gt) (rGtL X.K) := by
  intro pins s σ H x y v u Q I rx ry h
  obtain ⟨a, b, ns, ms, rfl, rfl, ha, hb, q⟩ := h
  cases rx
  cases ry
  obtain ⟨its, r1, p1, _⟩ := I.list ha
  obtain ⟨its2, r2, p2, _⟩ := I.list hb
  have i1 : IntsAre its ns := Vals.ints r1
  have i2 : IntsAre its2 ms := Vals.ints r2
  have e1 : its.toArray.size = ns.length := by rw [List.size_toArray]; exact i1.length
  have e2 : its2.toArray.size = ms.length := by rw [List.size_toArray]; exact i2.length
  have at1 : ∀ j (h1 : j < its.toArray.size), ∃ t, its.toArray[j] = .int (ns.getD j 0) t := fun j h1 => PyProof.Rows.IntsAre.int_at i1 _ _ (by simp at h1; simp [h1])
  have at2 : ∀ j (h1 : j < its2.toArray.size), ∃ t, its2.toArray[j] = .int (ms.getD j 0) t := fun j h1 => PyProof.Rows.IntsAre.int_at i2 _ _ (by simp at h1; simp [h1])
  have R := SeqAt.RcOp.lists_gt (A := X.A) (s := s) (e := fun j => decide (ns.getD j 0 = ms.getD j 0)) (r := fun j => decide (ms.getD j 0 < ns.getD j 0)) p1.isList p2.isList hu (fun j h1 h2 => by
    obtain ⟨t, et⟩ := at1 j h1
    obtain ⟨t', et'⟩ := at2 j h2
    rw [et, et']
    have z : (ns.getD j 0 == ms.getD j 0) = decide (ns.getD j 0 = ms.getD j 0) := by
      by_cases q : ns.getD j 0 = ms.getD j 0
      · rw [decide_eq_true q]; exact beq_iff_eq.mpr q
      · rw [decide_eq_false q]; exact beq_eq_false_iff_ne.mpr q
    rw [← z]
    exact SeqAt.EqAt.int_int _ _ _ _) (fun j h1 h2 _ => by
    obtain ⟨t, et⟩ := at1 j h1
    obtain ⟨t', et'⟩ := at2 j h2
    rw [et, et']
    exact fun prog w E Q h => gt_int h)
  rw [e1, e2] at R
  have z : wpAny (model X.prog X.w) X.A (compareOp .Gt (.ref a) (.ref b)) (EP X pins σ Q) X.xe s := R X.prog X.w X.xe (EP X pins σ Q) ⟨.bl _, H, I, rfl, q⟩
  exact z
theorem gt_head {x y : Int} {xs ys : List Int} (h : y < x) : gtI (x :: xs) (y :: ys) = true := by
  unfold gtI
  rw [List.length_cons, List.length_cons, show min (xs.length + 1) (ys.length + 1) = min xs.length ys.length + 1 by omega, List.range_succ_eq_map]
  rw [SeqAt.firstLt_no (decide_eq_false (by simpa using (by omega : ¬ x = y)))]
  exact decide_eq_true (by simpa using h)
theorem first_map (e r : Nat → Bool) (fin : Bool) (g : Nat → Nat) : ∀ l : List Nat, SeqAt.firstLt e r fin (l.map g) = SeqAt.firstLt (fun j => e (g j)) (fun j => r (g j)) fin l
  | [] => rfl
  | j :: t => by
    show (if e (g j) = true then SeqAt.firstLt e r fin (t.map g) else r (g j)) = if e (g j) = true then SeqAt.firstLt (fun j => e (g j)) (fun j => r (g j)) fin t else r (g j)
    rw [first_map e r fin g t]
theorem gt_same {x : Int} {xs ys : List Int} : gtI (x :: xs) (x :: ys) = gtI xs ys := by
  unfold gtI
  rw [List.length_cons, List.length_cons, show min (xs.length + 1) (ys.length + 1) = min xs.length ys.length + 1 by omega, List.range_succ_eq_map]
  rw [SeqAt.firstLt_yes (decide_eq_true (by simp)), first_map]
  congr 1
  exact decide_eq_decide.mpr (by omega)
end Gtl

/-! The least lots stand in order of their places; there is one. -/
namespace Lo
open PySem L2 TL Rm Gtl
def ord (f : Ft) : Int := 2 * ((f.2 : Nat) : Int) + if f.1 then 0 else 1
theorem allF_pw : ∀ n, (allF n).Pairwise fun f g => ord f < ord g := by
  intro n
  unfold allF
  refine List.pairwise_flatMap.mpr ⟨fun k _ => ?_, ?_⟩
  · refine List.pairwise_cons.mpr ⟨fun g m => ?_, List.pairwise_singleton _ _⟩
    rw [List.mem_singleton.mp m]
    simp [ord]
    omega
  · refine List.Pairwise.imp ?_ List.pairwise_lt_range
    intro a b h x mx y my
    have hx : ord x ≤ 2 * (a : Int) + 1 := by
      rcases List.mem_cons.mp mx with rfl | mx
      · simp [ord]; omega
      · rw [List.mem_singleton.mp mx]; simp [ord]
    have hy : 2 * (b : Int) ≤ ord y := by
      rcases List.mem_cons.mp my with rfl | my
      · simp [ord]
      · rw [List.mem_singleton.mp my]; simp [ord]; omega
    omega
def keyL (lot : List Ft) : List Int := ((lot.length : Nat) : Int) :: lot.map ord
theorem prs_pw {l : List Bool} {n : Nat} : ∀ {os : List Ft}, os.Pairwise (fun f g => ord f < ord g) → (prs l n os).Pairwise (fun a b => gtI (keyL b) (keyL a) = true)
  | [], _ => List.Pairwise.nil
  | f :: r, h => by
    obtain ⟨h1, h2⟩ := List.pairwise_cons.mp h
    refine List.pairwise_append.mpr ⟨?_, prs_pw h2, fun a ma b mb => ?_⟩
    · refine List.pairwise_map.mpr ((h2.sublist (List.filter_sublist)).imp fun {g g2} q => ?_)
      show gtI [2, ord f, ord g2] [2, ord f, ord g] = true
      rw [gt_same, gt_same]
      exact gt_head q
    · obtain ⟨g, mg, rfl⟩ := List.mem_map.mp ma
      obtain ⟨x, y, rfl, mx, my, _⟩ := prs_sil mb
      show gtI [2, ord x, ord y] [2, ord f, ord g] = true
      rw [gt_same]
      exact gt_head (h1 x mx)
theorem lots_pw (l : List Bool) (n : Nat) : (lots l n).Pairwise (fun a b => gtI (keyL b) (keyL a) = true) := by
  refine List.pairwise_append.mpr ⟨?_, prs_pw ((allF_pw _).sublist List.filter_sublist), fun a ma b mb => ?_⟩
  · refine List.pairwise_map.mpr (((allF_pw (l.length + 1)).sublist List.filter_sublist).imp fun {g g2} q => ?_)
    show gtI [1, ord g2] [1, ord g] = true
    rw [gt_same]
    exact gt_head q
  · obtain ⟨g, mg, rfl⟩ := List.mem_map.mp ma
    obtain ⟨x, y, rfl, mx, my, _⟩ := prs_sil mb
    show gtI [2, ord x, ord y] [1, ord g] = true
    exact gt_head (by decide)
theorem prs_ord {l : List Bool} {n : Nat} : ∀ {os : List Ft} {lot : List Ft}, os.Pairwise (fun f g => ord f < ord g) → lot ∈ prs l n os → ∃ f g, lot = [f, g] ∧ f ∈ os ∧ g ∈ os ∧ ord f < ord g
  | f :: r, lot, h, m => by
    obtain ⟨h1, h2⟩ := List.pairwise_cons.mp h
    rcases List.mem_append.mp m with m | m
    · obtain ⟨g, mg, rfl⟩ := List.mem_map.mp m
      have m1 := (List.mem_filter.mp mg).1
      exact ⟨f, g, rfl, List.mem_cons_self, List.mem_cons_of_mem _ m1, h1 g m1⟩
    · obtain ⟨f2, g, e, a, b, c⟩ := prs_ord h2 m
      exact ⟨f2, g, e, List.mem_cons_of_mem _ a, List.mem_cons_of_mem _ b, c⟩
/-- what each lot is -/
theorem lots_are {l : List Bool} {n : Nat} {lot : List Ft} (m : lot ∈ lots l n) : (∃ f, lot = [f] ∧ f.2 ≤ l.length ∧ f ∈ singles l n) ∨ ∃ f g, lot = [f, g] ∧ f.2 ≤ l.length ∧ g.2 ≤ l.length ∧ ord f < ord g ∧ sil l n [f] = false ∧ sil l n [g] = false := by
  rcases List.mem_append.mp m with m | m
  · obtain ⟨f, mf, rfl⟩ := List.mem_map.mp m
    exact .inl ⟨f, rfl, Nat.le_of_lt_succ (allF_mem.mp (List.mem_filter.mp mf).1), mf⟩
  · obtain ⟨f, g, rfl, mf, mg, h⟩ := prs_ord ((allF_pw _).sublist List.filter_sublist) m
    have no : ∀ {x}, x ∈ others l n → x.2 ≤ l.length ∧ sil l n [x] = false := fun {x} mx => by
      obtain ⟨a, b⟩ := List.mem_filter.mp mx
      refine ⟨Nat.le_of_lt_succ (allF_mem.mp a), ?_⟩
      cases c : sil l n [x] with
      | false => rfl
      | true =>
        have : x ∈ singles l n := List.mem_filter.mpr ⟨a, c⟩
        rw [decide_eq_true this] at b
        cases b
    exact .inr ⟨f, g, rfl, (no mf).1, (no mg).1, h, (no mf).2, (no mg).2⟩
theorem lots_len {l : List Bool} {n : Nat} {lot : List Ft} (m : lot ∈ lots l n) : lot.length = 1 ∨ lot.length = 2 := by
  rcases lots_are m with ⟨f, rfl, _⟩ | ⟨f, g, rfl, _⟩
  · exact .inl rfl
  · exact .inr rfl
theorem opn_cut {l : List Bool} {fs : List Ft} {k : Nat} (h : (true, k) ∈ fs) : opn l fs k = false := by
  unfold opn
  exact List.all_eq_false.mpr ⟨_, h, by simp⟩
theorem lots_ne {l : List Bool} {n : Nat} (h1 : 1 ≤ n) (hn : n ≤ l.count true) : lots l n ≠ [] := by
  have s : sil l n ((List.range (l.length + 1)).map fun k => (true, k)) = true := by
    unfold sil
    refine decide_eq_true ?_
    rw [show heardL l (opn l ((List.range (l.length + 1)).map fun k => (true, k))) = [] from ?_]
    · exact h1
    unfold heardL
    refine List.filter_eq_nil_iff.mpr fun j mj => ?_
    have cut : ∀ k, k ≤ l.length → opn l ((List.range (l.length + 1)).map fun k => (true, k)) k = false := fun k hk => opn_cut (List.mem_map.mpr ⟨k, List.mem_range.mpr (by omega), rfl⟩)
    have hj := List.mem_range.mp mj
    have hs : spo l j < l.length := sp_mem l j _ (sp_at hj)
    have a : pL l (opn l ((List.range (l.length + 1)).map fun k => (true, k))) j = false := List.all_eq_false.mpr ⟨0, List.mem_range.mpr (by omega), by rw [cut 0 (by omega)]; decide⟩
    have b : pR l (opn l ((List.range (l.length + 1)).map fun k => (true, k))) j = false := List.all_eq_false.mpr ⟨l.length, List.mem_range'_1.mpr (by omega), by rw [cut l.length (by omega)]; decide⟩
    rw [a, b]
    decide
  obtain ⟨lot, m, _⟩ := (lots_iff (fun f m => by obtain ⟨k, mk, rfl⟩ := List.mem_map.mp m; exact Nat.le_of_lt_succ (List.mem_range.mp mk)) hn).mp s
  exact List.ne_nil_of_mem m
theorem perm_small {a b : List Int} (p : a.Perm b) (h : a.Pairwise (· ≤ ·)) (g : b.Pairwise (· ≤ ·)) : a = b := p.eq_of_pairwise (fun x y _ _ u v => Int.le_antisymm u v) h g
end Lo

namespace L2
open PySem PySem.Spec PyProof.Rows
/-- o.m() by a positional promise -/
theorem pe_methR0 {X : Cx} {CX : CXT} {k : Nat} {C f : Addr} {m : Str} {sp : Sp} {E : XK} {o : Expr} {ta : TE} {apos pos : Pos} {pl : Sem Bool} (he : PE X o ta) (c : Cls X.K C) (hm : Meth X.K C m f)
    (F : FnR X.prog X.w X.K X.mg X.base CX k f sp) (hr : Room k X.A) (hx : Passes CX X E)
    (ht : eval (.Call (.Attribute o m apos) [] [] pos) X.env = (do
      let ov ← eval o X.env
      standAt apos.atName
      let (f, first) ← holding [ov] (getMethod ov m pl)
      callWith pos f first (backTo pos (starEach [] X.env)) (backToKw pos (keywordEach [] X.env))) := by rfl) :
    PE X (.Call (.Attribute o m apos) [] [] pos) (tMethR C m sp E ta tNil) := by
  refine ⟨fun pins s σ H Q I h => ?_⟩
  refine PySem.W.methodCall_KW (pl := pl) (thn (he.run pins s σ H _ I h) fun u s1 ⟨x, H1, I1, rx, a, dx, fs, ex, ea, l, q⟩ => ?_) ht
  subst ex
  obtain rfl : u = Value.ref a := rx
  refine getmeth_ok I1 ea c hm l ?_
  exact PySem.W.callWith_K0 (first := [.ref a]) I1.kIn hm.kp (wpAny_call (run_fnR (us := [.ref a]) (vs := [.ref a]) F hr hx I1 (.cons rfl .nil) q))
end L2

/-! Data with lists and empty dicts that keep off some addresses; repr of such, == of a text and a dict, x in a tuple of texts, a list != []. -/
namespace De
open PySem PySem.Spec PyProof.Rows L2 Dv Wm PySem.SeqAt
mutual
inductive En (K : PySem.W.Frag) (N : Addr → Prop) (H : Hp) : V → PyData → Prop
  | non : En K N H .non .none
  | bl (b : Bool) : En K N H (.bl b) (.bool b)
  | int (i : Int) : En K N H (.int i) (.int i)
  | str (x : Str) : En K N H (.str x) (.str x)
  | tup {a : Addr} {xs : List V} {ds : List PyData} : SqT K H a xs → Ens K N H xs ds → En K N H (.ref a) (.tuple ds)
  | lst {a : Addr} {xs : List V} {ds : List PyData} : N a → H a = some (.lst xs) → Ens K N H xs ds → En K N H (.ref a) (.list ds)
  | emp {a : Addr} : N a → H a = some (.dK []) → En K N H (.ref a) (.dict [])
inductive Ens (K : PySem.W.Frag) (N : Addr → Prop) (H : Hp) : List V → List PyData → Prop
  | nil : Ens K N H [] []
  | cons {v : V} {vs : List V} {d : PyData} {ds : List PyData} : En K N H v d → Ens K N H vs ds → Ens K N H (v :: vs) (d :: ds)
end
section
variable {K : PySem.W.Frag} {N M : Addr → Prop} {H H' : Hp}
mutual
theorem En.kk (k : Kt K H H') (f : ∀ a o, N a → H a = some o → M a ∧ H' a = some o) : ∀ (d : PyData) (v : V), En K N H v d → En K M H' v d
  | .none, _, h => by cases h; exact .non
  | .bool _, _, h => by cases h; exact .bl _
  | .int _, _, h => by cases h; exact .int _
  | .str _, _, h => by cases h; exact .str _
  | .tuple ds, _, h => by
    cases h with
    | tup a b => exact .tup (k _ _ a) (Ens.kk k f ds _ b)
  | .list ds, _, h => by
    cases h with
    | lst n a b => exact .lst (f _ _ n a).1 (f _ _ n a).2 (Ens.kk k f ds _ b)
  | .dict _, _, h => by
    cases h with
    | emp n e => exact .emp (f _ _ n e).1 (f _ _ n e).2
theorem Ens.kk (k : Kt K H H') (f : ∀ a o, N a → H a = some o → M a ∧ H' a = some o) : ∀ (ds : List PyData) (vs : List V), Ens K N H vs ds → Ens K M H' vs ds
  | [], _, h => by cases h; exact .nil
  | d :: ds, _, h => by
    cases h with
    | cons a b => exact .cons (En.kk k f d _ a) (Ens.kk k f ds _ b)
end
mutual
theorem En.ofDt : ∀ (d : PyData) (v : V), Dt K H v d → En K N H v d
  | .int _, _, h => by cases h; exact .int _
  | .str _, _, h => by cases h; exact .str _
  | .tuple ds, _, h => by
    cases h with
    | tup a b => exact .tup a (Ens.ofDts ds _ b)
  | .none, _, h => by cases h
  | .bool _, _, h => by cases h
  | .list _, _, h => by cases h
  | .dict _, _, h => by cases h
theorem Ens.ofDts : ∀ (ds : List PyData) (vs : List V), Dts K H vs ds → Ens K N H vs ds
  | [], _, h => by cases h; exact .nil
  | d :: ds, _, h => by
    cases h with
    | cons a b => exact .cons (En.ofDt d _ a) (Ens.ofDts ds _ b)
end
theorem En.ks {d : PyData} {v : V} (h : En K N H v d) (s : Same H H') : En K N H' v d := En.kk (Kt.same s) (fun _ _ n e => ⟨n, s _ _ e⟩) d v h
theorem Ens.ks {ds : List PyData} {vs : List V} (h : Ens K N H vs ds) (s : Same H H') : Ens K N H' vs ds := Ens.kk (Kt.same s) (fun _ _ n e => ⟨n, s _ _ e⟩) ds vs h
theorem Ens.len : ∀ {vs : List V} {ds : List PyData}, Ens K N H vs ds → vs.length = ds.length
  | _, [], h => by cases h; rfl
  | _, d :: ds, h => by
    cases h with
    | cons a b => rw [List.length_cons, List.length_cons, Ens.len b]
theorem Ens.at : ∀ {vs : List V} {ds : List PyData} {i : Nat} {v : V}, Ens K N H vs ds → vs[i]? = some v → ∃ d, ds[i]? = some d ∧ En K N H v d
  | _, [], _, _, h, e => by cases h; simp at e
  | _, d :: ds, i, v, h, e => by
    cases h with
    | cons a b =>
      cases i with
      | zero => cases e; exact ⟨d, rfl, a⟩
      | succ i => exact Ens.at (i := i) b (by simpa using e)
theorem Ens.take : ∀ {vs : List V} {ds : List PyData} (n : Nat), Ens K N H vs ds → Ens K N H (vs.take n) (ds.take n)
  | _, _, n, .nil => by rw [List.take_nil, List.take_nil]; exact .nil
  | _, _, 0, .cons a b => .nil
  | _, _, n + 1, .cons a b => .cons a (Ens.take n b)
theorem Ens.drop : ∀ {vs : List V} {ds : List PyData} (n : Nat), Ens K N H vs ds → Ens K N H (vs.drop n) (ds.drop n)
  | _, _, n, .nil => by rw [List.drop_nil, List.drop_nil]; exact .nil
  | _, _, 0, .cons a b => .cons a b
  | _, _, n + 1, .cons a b => Ens.drop n b
theorem Ens.app : ∀ {vs us : List V} {ds es : List PyData}, Ens K N H vs ds → Ens K N H us es → Ens K N H (vs ++ us) (ds ++ es)
  | _, _, _, _, .nil, h => h
  | _, _, _, _, .cons a b, h => .cons a (Ens.app b h)
theorem Ens.set {v : V} {d : PyData} (h : En K N H v d) : ∀ {vs : List V} {ds : List PyData} (k : Nat), Ens K N H vs ds → Ens K N H (vs.set k v) (ds.set k d)
  | _, _, _, .nil => .nil
  | _, _, 0, .cons a b => .cons h b
  | _, _, k + 1, .cons a b => .cons a (Ens.set h k b)
theorem Ens.snoc {vs : List V} {ds : List PyData} {v : V} {d : PyData} (h : Ens K N H vs ds) (g : En K N H v d) : Ens K N H (vs ++ [v]) (ds ++ [d]) := h.app (.cons g .nil)
theorem Ens.get : ∀ {vs : List V} {ds : List PyData} {i : Nat} {d : PyData}, Ens K N H vs ds → ds[i]? = some d → ∃ v, vs[i]? = some v ∧ En K N H v d
  | _, _, _, _, .nil, e => by simp at e
  | _, _, i, d, .cons (v := v) a b, e => by
    cases i with
    | zero => cases e; exact ⟨v, rfl, a⟩
    | succ i => exact Ens.get (i := i) b (by simpa using e)
theorem Ens.rep : ∀ (k : Nat) {vs : List V} {ds : List PyData}, Ens K N H vs ds → Ens K N H (List.replicate k vs).flatten (List.replicate k ds).flatten
  | 0, _, _, _ => .nil
  | k + 1, vs, ds, h => by
    rw [List.replicate_succ, List.replicate_succ, List.flatten_cons, List.flatten_cons]
    exact h.app (Ens.rep k h)
end
section
variable {X : Cx} {pins : List (Addr × Obj)} {σ : L2.St} {H : Hp} {s : Shared} {N : Addr → Prop}
mutual
theorem En.reads (I : Inv X pins σ H s) (hN : ∀ a, N a → a ≠ sysModules) : ∀ (d : PyData) (v : V) (u : Value), En X.K N H v d → RelV v u → ∃ as, Reads s.heap u d as ∧ sysModules ∉ as
  | .none, _, _, h, r => by cases h; cases r; exact ⟨_, .none, List.not_mem_nil⟩
  | .bool b, _, _, h, r => by cases h; cases r; exact ⟨_, .bool b, List.not_mem_nil⟩
  | .int i, _, _, h, r => by cases h; obtain ⟨t, rfl⟩ := r; exact ⟨_, .int i t, List.not_mem_nil⟩
  | .str x, _, _, h, r => by cases h; obtain ⟨t, rfl⟩ := r; exact ⟨_, .str x t, List.not_mem_nil⟩
  | .tuple ds, _, _, h, r => by
    cases h with
    | tup a b =>
      cases r
      obtain ⟨its, rv, ⟨o, ho, hc, n, hd⟩, _⟩ := I.tuple a
      obtain ⟨as, hr, hn⟩ := Ens.reads I hN ds _ its b rv
      exact ⟨as, .tuple ho hc hd hr, hn⟩
  | .list ds, _, _, h, r => by
    cases h with
    | @lst a _ _ na e b =>
      cases r
      obtain ⟨its, rv, ⟨o, n, ho, hc, _, hd⟩, _⟩ := I.list (SqL.of e)
      obtain ⟨as, hr, hn⟩ := Ens.reads I hN ds _ its b rv
      refine ⟨a :: as, .list ho hc hd hr, fun m => ?_⟩
      rcases List.mem_cons.mp m with z | z
      · exact hN a na z.symm
      · exact hn z
  | .dict _, _, _, h, r => by
    cases h with
    | @emp a na e =>
      cases r
      obtain ⟨_, _, vs, rel, o, es, ep, h1, h2, h3, _, pr, _⟩ := dk_of I.hok e
      cases rel
      generalize hes : es.toList = L at pr
      cases pr
      refine ⟨_, .dict (as := []) (bs := []) h1 h2.1 h3 (by rw [hes]; exact .nil) (by rw [hes]; exact .nil), fun m => ?_⟩
      rcases List.mem_cons.mp m with z | z
      · exact hN a na z.symm
      · simp at z
theorem Ens.reads (I : Inv X pins σ H s) (hN : ∀ a, N a → a ≠ sysModules) : ∀ (ds : List PyData) (vs : List V) (us : List Value), Ens X.K N H vs ds → Vals vs us → ∃ as, ReadsAll s.heap us ds as ∧ sysModules ∉ as
  | [], _, _, h, r => by cases h; cases r; exact ⟨_, .nil, List.not_mem_nil⟩
  | d :: ds, _, _, h, r => by
    cases h with
    | cons a b =>
      cases r with
      | cons ra rb =>
        obtain ⟨as, h1, n1⟩ := En.reads I hN d _ _ a ra
        obtain ⟨bs, h2, n2⟩ := Ens.reads I hN ds _ _ b rb
        exact ⟨as ++ bs, .cons h1 h2, fun m => (List.mem_append.mp m).elim n1 n2⟩
end
end
/-- repr of such -/
def rReprE (K : PySem.W.Frag) : List V → Hp → VK → Prop := fun xs H Q => ∃ (v : V) (d : PyData) (N : Addr → Prop), xs = [v] ∧ (∀ b, N b → b ≠ sysModules) ∧ En K N H v d ∧ d.showable = true ∧ d.depth ≤ 60 ∧ d.shown.length ≤ sizeLine ∧ Q (.str d.shown) H
theorem call_reprE {X : Cx} (hg : X.A.guards = some []) (hu : X.A.units + 64 < cLine) : CallR X (.builtin "repr") (rReprE X.K) := by
  intro pins s σ H xs us Q I r h
  obtain ⟨v, d, N, rfl, hN, hd, hs, hz, hl, q⟩ := h
  obtain ⟨u, rfl, ru⟩ := r.one
  obtain ⟨as, rd, hn⟩ := En.reads I hN d v u hd ru
  cases rd with
  | none => exact PySem.P.repr_of_none ⟨.str _, H, I.tok _, ⟨_, rfl⟩, q⟩
  | bool b => exact PySem.P.repr_of_bool ⟨.str _, H, I.tok _, ⟨_, rfl⟩, q⟩
  | int i t => exact PySem.P.repr_of_int (of_decide_eq_true hs) ⟨.str _, H, I.tok _, ⟨_, rfl⟩, q⟩
  | str z t => exact PySem.P.repr_of_str (hsz := hl) ⟨.str _, H, I.tok _, ⟨_, rfl⟩, q⟩
  | list h1 h2 h3 h4 => exact PySem.repr_of_reads' (.list h1 h2 h3 h4) hs (fun _ m => hn m) hg (by omega) (fun _ _ e => e) (fun g u tk k => ⟨.str _, H, I.kept (t' := tk) k, ⟨_, rfl⟩, q⟩) hl
  | tuple h1 h2 h3 h4 => exact PySem.repr_of_reads' (.tuple h1 h2 h3 h4) hs (fun _ m => hn m) hg (by omega) (fun _ _ e => e) (fun g u tk k => ⟨.str _, H, I.kept (t' := tk) k, ⟨_, rfl⟩, q⟩) hl
  | dict h1 h2 h3 h4 h5 => exact PySem.repr_of_reads' (.dict h1 h2 h3 h4 h5) hs (fun _ m => hn m) hg (by omega) (fun _ _ e => e) (fun g u tk k => ⟨.str _, H, I.kept (t' := tk) k, ⟨_, rfl⟩, q⟩) hl
end De
namespace De
open PySem PySem.SeqAt MeetsSeq
section
variable {A : Around} {s : Shared}
theorem str_declines (b : Str) (u : Tok) (l : Addr) (es : Array DictEntry) (nn : Nat) (dd : Option Addr) (sl : Array (Option Value)) :
    Meets (Builtin.«str.__eq__» ⟨[.str b u, .ref l], []⟩) (fun _ R s => s.heap.get? l = some { cls := .type "dict", dict := dd, data := .dict es nn, slots := sl } ∧ R (.ok (.ret .notImplemented)) s) :=
  .of_wp fun prog w A R s h => by obtain ⟨hp, g, d, tk, os⟩ := s; obtain ⟨hl, h⟩ := h; wp_walk using wpAny_loadPart' hl, wpAny_load hl; exact ⟨_, rfl, h⟩
theorem dict_declines (b : Str) (u : Tok) (l : Addr) (es : Array DictEntry) (nn : Nat) (dd : Option Addr) (sl : Array (Option Value)) :
    Meets (Builtin.«dict.__eq__» ⟨[.ref l, .str b u], []⟩) (fun _ R s => s.heap.get? l = some { cls := .type "dict", dict := dd, data := .dict es nn, slots := sl } ∧ R (.ok (.ret .notImplemented)) s) :=
  .of_wp fun prog w A R s h => by obtain ⟨hp, g, d, tk, os⟩ := s; obtain ⟨hl, h⟩ := h; have f1 := F.sub_str_dict; wp_walk using wpAny_loadPart' hl; exact ⟨_, rfl, h⟩
theorem rc_str_dict {l : Addr} {o : Obj} {es : Array DictEntry} {nn : Nat} (b : Str) (u : Tok) (ho : s.heap.get? l = some o) (hc : o.cls = .type "dict") (hd : o.data = .dict es nn) (hu : A.units < cLine) : RcAt A s (.str b u) (.ref l) false := fun prog w E Q h => by
  obtain ⟨cls, dd, data, sl⟩ := o
  simp only at hc hd
  subst hc hd
  exact rc_eq_decline_or (k := false) (typeIs_str s b u) ⟨_, ho, rfl⟩ (by decide) F.sub_dict_str F.slot_str_eq F.slot_dict_eq_refl
    (fun _ hq => call_meets F.slot_str_eq (typeIs_str s b u) F.entry_str_eq (F.args_str_eq_2 _ _) (str_declines b u l es nn dd sl) ⟨ho, hq⟩)
    (fun _ hq => call_meets F.slot_dict_eq_refl ⟨_, ho, rfl⟩ F.entry_dict_eq (F.args_dict_eq_2 _ _) (dict_declines b u l es nn dd sl) ⟨ho, hq⟩)
    (fun _ hq => wpAny_of_eq (rfl : isSame (.str b u) (.ref l) = pure false) hq) (.inr hu) h
theorem eq_str_dict {l : Addr} {o : Obj} {es : Array DictEntry} {nn : Nat} (b : Str) (u : Tok) (ho : s.heap.get? l = some o) (hc : o.cls = .type "dict") (hd : o.data = .dict es nn) (hu : A.units < cLine) : EqAt A s (.str b u) (.ref l) false := fun prog w E Q h => by
  unfold eqBool
  refine wpAny_holding ?_
  refine wpAny_ite_split (fun hab => absurd (eq_of_beq hab) nofun) (fun _ => ?_)
  exact wpAny_bind (rc_str_dict b u ho hc hd hu prog w E _ (wpAny_truthy_bool h))
end
end De
namespace De
open PySem PySem.Spec PyProof.Rows L2 Dv Wm PySem.SeqAt
/-- a text against any such datum -/
theorem eq_str_any {X : Cx} {pins : List (Addr × Obj)} {σ : L2.St} {H : Hp} {s : Shared} {N : Addr → Prop} {A : Around} (I : Inv X pins σ H s) (hN : ∀ a, N a → a ≠ sysModules) {d : PyData} {v : V} {u : Value} (h : En X.K N H v d) (r : RelV v u) (t : Str) (k : Tok) (hu : A.units < cLine) :
    EqAt A s (.str t k) u (PyData.eqv (.str t) d) := by
  obtain ⟨as, rd, _⟩ := En.reads I hN d v u h r
  cases rd with
  | none => exact EqAt.str_none t k
  | bool y => exact EqAt.str_bool t k y
  | int y u => exact EqAt.str_int t k y u
  | str y u => exact EqAt.str_str t k y u
  | list k1 k2 k3 k4 => exact EqAt.str_list t k ⟨_, k1, k2, _, k3⟩ hu
  | tuple k1 k2 k3 k4 => exact EqAt.str_tuple t k ⟨_, k1, k2, _, k3⟩ hu
  | dict k1 k2 k3 k4 k5 => exact eq_str_dict t k k1 k2 k3 hu
/-- x in (texts), x any such datum -/
def rInTx (K : PySem.W.Frag) : R2 := fun x y H Q => ∃ (d : PyData) (N : Addr → Prop) (q : Addr) (ts : List Str), (∀ a, N a → a ≠ sysModules) ∧ En K N H x d ∧ y = .ref q ∧ SqT K H q (ts.map V.str) ∧ Q (.bl (ts.any fun t => PyData.eqv (.str t) d)) H
theorem vals_str : ∀ {ts : List Str} {us : List Value}, Vals (ts.map V.str) us → ∀ y ∈ us, ∃ t k, y = Value.str t k
  | [], _, h, _, m => by cases h; cases m
  | t :: ts, _, h, y, m => by
    cases h with
    | cons a b =>
      rcases List.mem_cons.mp m with rfl | m
      · obtain ⟨k, e⟩ := a
        exact ⟨t, k, e⟩
      · exact vals_str b y m
def strB (d : PyData) : Value → Bool
  | .str t _ => PyData.eqv (.str t) d
  | _ => false
theorem any_str (d : PyData) : ∀ {ts : List Str} {us : List Value}, Vals (ts.map V.str) us → us.any (strB d) = ts.any fun t => PyData.eqv (.str t) d
  | [], _, h => by cases h; rfl
  | t :: ts, _, h => by
    cases h with
    | cons a b =>
      obtain ⟨k, e⟩ := a
      rw [List.any_cons, List.any_cons, any_str d b, e]
      rfl
theorem op_inTx {X : Cx} (hu : X.A.units + 65 < cLine) : OpR X (compareOp .In) (rInTx X.K) := by
  intro pins s σ H x y v u Q I rx ry h
  obtain ⟨d, N, q, ts, hN, hd, rfl, hq, k⟩ := h
  cases ry
  obtain ⟨its, rv, hl, _⟩ := I.tuple hq
  refine SeqAt.in_tupleAt (strB d) hl (fun y hy => ?_) ?_
  · obtain ⟨t, k, rfl⟩ := vals_str rv y (by simpa using hy)
    exact eq_str_any I hN hd rx t k (show X.A.units + 1 < cLine by omega)
  · have e : its.toArray.any (strB d) = ts.any fun t => PyData.eqv (.str t) d := by
      rw [← Array.any_toList]
      exact any_str d (by simpa using rv)
    rw [e]
    exact ⟨.bl _, H, I, rfl, k⟩
/-- xs != [] -/
def rNeNil (K : PySem.W.Frag) : R2 := fun x y H Q => ∃ (a b : Addr) (xs : List V), x = .ref a ∧ y = .ref b ∧ SqL K H a xs ∧ SqL K H b [] ∧ Q (.bl (!xs.isEmpty)) H
theorem op_neNil {X : Cx} (hu : X.A.units + 65 < cLine) : OpR X (compareOp .NotEq) (rNeNil X.K) := by
  intro pins s σ H x y v u Q I rx ry h
  obtain ⟨a, b, xs, rfl, rfl, ha, hb, k⟩ := h
  cases rx
  cases ry
  obtain ⟨its, rv, pl, _⟩ := I.list ha
  obtain ⟨jts, rw2, pl2, _⟩ := I.list hb
  cases rw2
  have hu2 : X.A.units < cLine := by omega
  show wpAny _ _ (richCompare .NotEq _ _) _ _ s
  cases rv with
  | nil => exact RcNeAt.lists (e := fun _ => true) pl.isList pl2.isList rfl hu2 (fun j h1 => absurd h1 (by simp)) _ _ _ _ ⟨.bl _, H, I, rfl, k⟩
  | cons r1 r2 => exact RcNeAt.lists_lengths pl.isList pl2.isList (by simp) hu2 _ _ _ _ ⟨.bl _, H, I, rfl, k⟩
end De

/-! A call by keywords that may raise, its exception's part told by the state at the call. -/
namespace Kw
open PySem PySem.Spec PyProof.Rows L2
section
variable {X : Cx} {CX : CXT} {k n : Nat} {f : Addr} {fd : FuncData} {ps ks : List Str} {sp : Sp} {E : L2.St → XK} {x : Str} {e : Expr} {es : List Expr} {kws : List Keyword} {t tk : TA} {p pos : Pos} {g : List Value → List Value → List Value} {gV : List V → List V → List V}
theorem run_fnNS {pins : List (Addr × Obj)} {σ : L2.St} {H : Hp} {s : Shared} {Q : VK} {us ws : List Value} {vs zs : List V} (F : FnOk X.prog X.w X.K X.mg X.base CX k f fd ps sp) (hr : Room k X.A) (hb : KBn X.K fd ps n ks g gV) (hx : PassesAt CX X σ (E σ))
    (I : Inv X pins σ H s) (r : Vals vs us) (rz : Vals zs ws) (l1 : vs.length = n) (l2 : zs.length = ks.length) (h : sp (gV vs zs) H Q (E σ)) : wpAny (model X.prog X.w) X.A (call (.ref f) us (ks.zip ws)) (EP X pins σ Q) X.xe s := by
  have r2 := hb.rel r rz
  refine wpAny_call (codeAny_mono (F.run X.A X.stack s H ⟨us, ks.zip ws⟩ (g us ws) (gV vs zs) Q (E σ) hr I.env0 (hb.to s us ws I.kIn (r.length.symm.trans l1) (rz.length.symm.trans l2)) r2 h) fun r s' hq => ?_)
  cases r with
  | error e => exact hx pins H s e s' I hq
  | ok fl =>
    cases fl with
    | ret u => exact I.after hq
    | next => exact False.elim hq
    | brk => exact False.elim hq
    | cont => exact False.elim hq
def tCallNS (n m : Nat) (sp : Sp) (gV : List V → List V → List V) (E : L2.St → XK) (t tk : TA) : TE := fun σ H Q => t σ H fun vs H1 => tk σ H1 fun zs H2 => vs.length = n ∧ zs.length = m ∧ sp (gV vs zs) H2 Q (E σ)
theorem pe_callNS (F : FnOk X.prog X.w X.K X.mg X.base CX k f fd ps sp) (hr : Room k X.A) (hg : Gl X x) (hm : X.mg x = some (.ref f)) (hk : PySem.W.keepIn X.K (.ref f) = true) (hb : KBn X.K fd ps n ks g gV) (hx : ∀ σ, PassesAt CX X σ (E σ))
    (ha : PA X (e :: es) t) (hkw : PK X kws tk) (hall : (backToKw pos (keywordEach kws X.env)).all (·.1.isSome) = true := by rfl) (hks : (backToKw pos (keywordEach kws X.env)).filterMap (·.1) = ks := by rfl)
    (hdb : (x == ("__debug__" : Str)) = false := by decide) (he : starEach (e :: es) X.env = (false, eval e X.env) :: starEach es X.env := by rfl)
    (hpl : ((backTo pos (starEach (e :: es) X.env)).any (·.1) || (backToKw pos (keywordEach kws X.env)).any (·.1.isNone)) = false := by rfl) :
    PE X (.Call (.Name x p) (e :: es) kws pos) (tCallNS n ks.length sp gV E t tk) := by
  refine ⟨fun pins s σ H Q I h => ?_⟩
  refine wpAny_Call_Name_kw (ld_glob I hg hm ?_ hdb)
  refine PySem.W.callWith_KW (h₀ := X.base) I.ok.mod.kin hk hall (thn (ha.run pos pins s σ H _ I h) fun us s1 ⟨vs, H1, I1, r, q⟩ => ?_) hpl he
  refine thn (hkw.run pos pins s1 σ H1 _ I1 q) fun ws s2 ⟨zs, H2, I2, rz, l1, l2, q2⟩ => ⟨I2.kIn, ?_⟩
  rw [hks]
  exact run_fnNS F hr hb (hx σ) I2 r rz l1 l2 q2
end
end Kw
/-! Making an object by C(e, .., k = v, ..) within a try: what is raised is wished for at the slots as they stand. -/
namespace Kw
open PySem PySem.Spec PyProof.Rows L2
section
variable {X : Cx} {CX : CXT} {k n : Nat} {f C : Addr} {fd : FuncData} {ps ks : List Str} {sp : Sp} {E : L2.St → XK} {x : Str} {e : Expr} {es : List Expr} {kws : List Keyword} {t tk : TA} {p pos : Pos} {g : List Value → List Value → List Value} {gV : List V → List V → List V}
def tMakeKS (C : Addr) (n m : Nat) (sp : Sp) (gV : List V → List V → List V) (E : L2.St → XK) (t tk : TA) : TE := fun σ H Q => t σ H fun vs H1 => tk σ H1 fun zs H2 => vs.length = n ∧ zs.length = m ∧
  ∀ x dx, H2 x = none → H2 dx = none → dx ≠ x → sp (gV (.ref x :: vs) zs) (upd (upd H2 dx (.own x)) x (.ins C dx [])) (fun v H3 => v = .non ∧ Q (.ref x) H3) (E σ)
theorem pe_makeKS (M : Mk X.K C f) (F : FnOk X.prog X.w X.K X.mg X.base CX k f fd ps sp) (hr : Room (k + 1) X.A) (hg : Gl X x) (hm : X.mg x = some (.ref C)) (hb : KBn X.K fd ps (n + 1) ks g gV) (hx : ∀ σ, PassesAt CX X σ (E σ)) (ha : PA X (e :: es) t) (hkw : PK X kws tk)
    (hall : (backToKw pos (keywordEach kws X.env)).all (·.1.isSome) = true := by rfl) (hks : (backToKw pos (keywordEach kws X.env)).filterMap (·.1) = ks := by rfl) (hdb : (x == ("__debug__" : Str)) = false := by decide)
    (he : starEach (e :: es) X.env = (false, eval e X.env) :: starEach es X.env := by rfl) (hpl : ((backTo pos (starEach (e :: es) X.env)).any (·.1) || (backToKw pos (keywordEach kws X.env)).any (·.1.isNone)) = false := by rfl) :
    PE X (.Call (.Name x p) (e :: es) kws pos) (tMakeKS C n ks.length sp gV E t tk) := by
  refine ⟨fun pins s σ H Q I h => ?_⟩
  refine wpAny_Call_Name_kw (ld_glob I hg hm ?_ hdb)
  refine PySem.W.callWith_KW (h₀ := X.base) I.ok.mod.kin M.kp hall (thn (ha.run pos pins s σ H _ I h) fun us s1 w => ?_) hpl he
  obtain ⟨vs, H1, I1, r, q⟩ := w
  refine thn (hkw.run pos pins s1 σ H1 _ I1 q) fun ws s2 w2 => ?_
  obtain ⟨zs, H2, J, rz, l1, l2, q2⟩ := w2
  refine ⟨J.kIn, ?_⟩
  rw [hks]
  have go := q2 (s2.heap.objs.size + 1) s2.heap.objs.size (J.hok.fresh (Nat.le_succ _)) (J.hok.fresh (Nat.le_refl _)) (Nat.ne_of_lt (Nat.lt_succ_self _))
  have J2 := Inv.made (C := C) J
  have r1 : Vals (V.ref (s2.heap.objs.size + 1) :: vs) (Value.ref (s2.heap.objs.size + 1) :: us) := .cons rfl r
  have n1 : (Value.ref (s2.heap.objs.size + 1) :: us).length = n + 1 := r1.length.symm.trans (congrArg (· + 1) l1)
  have ran := F.run _ X.stack _ _ ⟨Value.ref (s2.heap.objs.size + 1) :: us, ks.zip ws⟩ _ _ _ (E σ) (hr.make C us (ks.zip ws)) (J2.env0.make C us (ks.zip ws)) (hb.to _ _ ws J2.kIn n1 (rz.length.symm.trans l2)) (hb.rel r1 rz) go
  refine wpAny_call (make_map (f := f) J.kIn M.makes M.init (beq_iff_eq.mp M.fn) (codeAny_mono ran fun z t2 hz => ?_))
  match z, hz with
  | .error _, hz => exact hx σ pins _ _ _ _ J2 hz
  | .ok (.ret _), hz =>
    obtain ⟨_, _, J3, rv, ev, q3⟩ := J2.after hz
    subst ev
    exact ⟨rv, V.ref (s2.heap.objs.size + 1), _, J3, rfl, q3⟩
  | .ok .next, hz => exact hz.elim
  | .ok .brk, hz => exact hz.elim
  | .ok .cont, hz => exact hz.elim
end
section
variable {X : Cx} {CX : CXT} {k n : Nat} {f C : Addr} {fd : FuncData} {ps ks : List Str} {sp : Sp} {E : L2.St → XK} {m : Str} {pos apos : Pos} {o : Expr} {kws : List Keyword} {ta : TE} {tk : TA} {g : List Value → List Value → List Value} {gV : List V → List V → List V} {pl : Sem Bool}
def tMethNS (C : Addr) (m : Str) (n : Nat) (sp : Sp) (gV : List V → List V → List V) (E : L2.St → XK) (ta : TE) (tk : TA) : TE := fun σ H Q => ta σ H fun x H1 => ∃ a dx fs, x = .ref a ∧ H1 a = some (.ins C dx fs) ∧ fs.lookup m = none ∧
  tk σ H1 fun zs H2 => zs.length = n ∧ sp (gV [x] zs) H2 Q (E σ)
theorem pe_methNS (ho : PE X o ta) (c : Cls X.K C) (hm : Meth X.K C m f) (F : FnOk X.prog X.w X.K X.mg X.base CX k f fd ps sp) (hr : Room k X.A) (hb : KBn X.K fd ps 1 ks g gV) (hx : ∀ σ, PassesAt CX X σ (E σ)) (hk : PK X kws tk)
    (h1 : (backToKw pos (keywordEach kws X.env)).all (·.1.isSome) = true := by rfl) (h2 : (backToKw pos (keywordEach kws X.env)).filterMap (·.1) = ks := by rfl)
    (h3 : ((backTo pos (starEach [] X.env)).any (·.1) || (backToKw pos (keywordEach kws X.env)).any (·.1.isNone)) = false := by rfl)
    (h4 : eval (.Call (.Attribute o m apos) [] kws pos) X.env = (do
      let v ← eval o X.env
      standAt apos.atName
      let (a, b) ← holding [v] (getMethod v m pl)
      callWith pos a b (backTo pos (starEach [] X.env)) (backToKw pos (keywordEach kws X.env))) := by rfl) :
    PE X (.Call (.Attribute o m apos) [] kws pos) (tMethNS C m ks.length sp gV E ta tk) := by
  constructor
  intro pins s σ H Q I h
  refine PySem.W.methodCall_KW (pl := pl) (thn (ho.run pins s σ H _ I h) fun u s1 w => ?_) h4
  obtain ⟨x, H1, I1, rx, a, dx, fs, ex, ea, l, q⟩ := w
  subst ex
  cases (show u = Value.ref a from rx)
  refine getmeth_ok I1 ea c hm l ?_
  refine PySem.W.callWith_KW0 (first := [.ref a]) (h₀ := X.base) I.ok.mod.kin hm.kp h1 (thn (hk.run pos pins s1 σ H1 _ I1 q) fun ws s2 w2 => ?_) h3
  obtain ⟨zs, H2, I2, rz, l2, q2⟩ := w2
  refine ⟨I2.kIn, ?_⟩
  rw [h2]
  exact run_fnNS (us := [.ref a]) (vs := [.ref a]) F hr hb (hx σ) I2 (.cons rfl .nil) rz rfl l2 q2
end
/-- in an except suite: the suite's K is the def's (else the clause's own promise would speak of the suite) -/
theorem pe_bmQ {X : Cx} {K : PySem.W.Frag} {e : Expr} {r : PySem.W.Frag → TE} (h : PE X e (r X.K)) (hk : X.K = K) : PE X e (r K) := hk ▸ h
end Kw

namespace K51
open PySem L2
def top (i : Nat) : Stmt := PySem.Challenge.pw_wheelchorus_k51_whole_least_lots_of_faul.main.body.getD i (.Pass ⟨0, 0, 0, 0⟩)
abbrev s_is_whole : Stmt := top 7
abbrev s_is_whole_within : Stmt := top 8
abbrev s_is_number : Stmt := top 13
abbrev s_is_ring_text : Stmt := top 23
abbrev s_zones_of : Stmt := top 24
abbrev s_init : Stmt := inClass (top 22) 0
abbrev s_all_faults : Stmt := inClass (top 22) 5
abbrev s_check_fault : Stmt := inClass (top 22) 6
abbrev s_check_faults : Stmt := inClass (top 22) 7
abbrev s_zone_of : Stmt := inClass (top 22) 12
abbrev s_closed_stretches : Stmt := inClass (top 22) 11
abbrev s_passed_from : Stmt := inClass (top 22) 10
abbrev s_reached : Stmt := inClass (top 22) 9
abbrev s_hinit : Stmt := inClass (top 27) 0
abbrev s_heq : Stmt := inClass (top 27) 1
abbrev s_with_rules : Stmt := inClass (top 27) 2
abbrev s_is_silent : Stmt := inClass (top 27) 3
abbrev s_silent_faults : Stmt := inClass (top 27) 4
abbrev s_least_lots : Stmt := inClass (top 27) 5
abbrev s_guarded_ring : Stmt := top 28
abbrev s_open : Stmt := top 30
abbrev s_draw : Stmt := top 31
abbrev s_number : Stmt := top 32
abbrev s_text : Stmt := top 33
abbrev s_faults : Stmt := top 34
abbrev s_zone : Stmt := top 35
abbrev s_open_at : Stmt := top 36
abbrev s_passed : Stmt := top 37
abbrev s_spots : Stmt := top 38
abbrev s_heard : Stmt := top 39
abbrev s_made : Stmt := top 40
abbrev s_order : Stmt := top 41
abbrev s_lots : Stmt := top 42
abbrev s_silent : Stmt := top 43
abbrev s_within : Stmt := top 44
abbrev s_guarded : Stmt := top 45
abbrev s_wwrong : Stmt := top 46
abbrev s_exchanged : Stmt := top 47
abbrev s_kept_out : Stmt := top 48
abbrev s_changed : Stmt := top 49
abbrev s_law : Stmt := top 50
abbrev nm_is_whole : List Str := ["thing"]
theorem sc_is_whole : FnScope nm_is_whole ["thing"] (defScope s_is_whole) :=
  ⟨rfl, rfl, rfl, by decide +kernel, rfl, by decide +kernel, by decide +kernel⟩
abbrev nm_is_whole_within : List Str := ["thing", "low", "high"]
theorem sc_is_whole_within : FnScope nm_is_whole_within ["thing", "low", "high"] (defScope s_is_whole_within) :=
  ⟨rfl, rfl, rfl, by decide +kernel, rfl, by decide +kernel, by decide +kernel⟩
abbrev nm_is_number : List Str := ["thing", "letter"]
theorem sc_is_number : FnScope nm_is_number ["thing"] (defScope s_is_number) :=
  ⟨rfl, rfl, rfl, by decide +kernel, rfl, by decide +kernel, by decide +kernel⟩
abbrev nm_is_ring_text : List Str := ["thing", "sign"]
theorem sc_is_ring_text : FnScope nm_is_ring_text ["thing"] (defScope s_is_ring_text) :=
  ⟨rfl, rfl, rfl, by decide +kernel, rfl, by decide +kernel, by decide +kernel⟩
abbrev nm_zones_of : List Str := ["text", "zones", "first", "part"]
theorem sc_zones_of : FnScope nm_zones_of ["text"] (defScope s_zones_of) :=
  ⟨rfl, rfl, rfl, by decide +kernel, rfl, by decide +kernel, by decide +kernel⟩
abbrev nm_init : List Str := ["self", "text"]
theorem sc_init : FnScope nm_init ["self", "text"] (defScope s_init) :=
  ⟨rfl, rfl, rfl, by decide +kernel, rfl, by decide +kernel, by decide +kernel⟩
abbrev nm_all_faults : List Str := ["self", "stretch", "word"]
theorem sc_all_faults : FnScope nm_all_faults ["self"] (defScope s_all_faults) :=
  ⟨rfl, rfl, rfl, by decide +kernel, rfl, by decide +kernel, by decide +kernel⟩
abbrev nm_check_fault : List Str := ["self", "thing"]
theorem sc_check_fault : FnScope nm_check_fault ["self", "thing"] (defScope s_check_fault) :=
  ⟨rfl, rfl, rfl, by decide +kernel, rfl, by decide +kernel, by decide +kernel⟩
abbrev nm_check_faults : List Str := ["self", "faults", "fault"]
theorem sc_check_faults : FnScope nm_check_faults ["self", "faults"] (defScope s_check_faults) :=
  ⟨rfl, rfl, rfl, by decide +kernel, rfl, by decide +kernel, by decide +kernel⟩
abbrev nm_zone_of : List Str := ["self", "stretch"]
theorem sc_zone_of : FnScope nm_zone_of ["self", "stretch"] (defScope s_zone_of) :=
  ⟨rfl, rfl, rfl, by decide +kernel, rfl, by decide +kernel, by decide +kernel⟩
abbrev nm_closed_stretches : List Str := ["self", "faults", "dead", "word", "stretch", "stretches"]
theorem sc_closed_stretches : FnScope nm_closed_stretches ["self", "faults"] (defScope s_closed_stretches) :=
  ⟨rfl, rfl, rfl, by decide +kernel, rfl, by decide +kernel, by decide +kernel⟩
abbrev nm_passed_from : List Str := ["self", "end", "faults", "closed", "passed", "places", "place"]
theorem sc_passed_from : FnScope nm_passed_from ["self", "end", "faults"] (defScope s_passed_from) :=
  ⟨rfl, rfl, rfl, by decide +kernel, rfl, by decide +kernel, by decide +kernel⟩
abbrev nm_reached : List Str := ["self", "faults"]
theorem sc_reached : FnScope nm_reached ["self", "faults"] (defScope s_reached) :=
  ⟨rfl, rfl, rfl, by decide +kernel, rfl, by decide +kernel, by decide +kernel⟩
abbrev nm_hinit : List Str := ["self", "box", "ring", "mark", "rows", "need"]
theorem sc_hinit : FnScope nm_hinit ["self", "box", "ring", "mark", "rows", "need"] (defScope s_hinit) :=
  ⟨rfl, rfl, rfl, by decide +kernel, rfl, by decide +kernel, by decide +kernel⟩
abbrev nm_heq : List Str := ["self", "other"]
theorem sc_heq : FnScope nm_heq ["self", "other"] (defScope s_heq) :=
  ⟨rfl, rfl, rfl, by decide +kernel, rfl, by decide +kernel, by decide +kernel⟩
abbrev nm_with_rules : List Str := ["self", "ring", "mark", "rows", "need"]
theorem sc_with_rules : FnScope nm_with_rules ["self", "ring", "mark", "rows", "need"] (defScope s_with_rules) :=
  ⟨rfl, rfl, rfl, by decide +kernel, rfl, by decide +kernel, by decide +kernel⟩
abbrev nm_is_silent : List Str := ["self", "faults"]
theorem sc_is_silent : FnScope nm_is_silent ["self", "faults"] (defScope s_is_silent) :=
  ⟨rfl, rfl, rfl, by decide +kernel, rfl, by decide +kernel, by decide +kernel⟩
abbrev nm_silent_faults : List Str := ["self", "fault"]
theorem sc_silent_faults : FnScope nm_silent_faults ["self"] (defScope s_silent_faults) :=
  ⟨rfl, rfl, rfl, by decide +kernel, rfl, by decide +kernel, by decide +kernel⟩
abbrev nm_least_lots : List Str := ["self", "singles", "others", "fault", "lots", "index", "other"]
theorem sc_least_lots : FnScope nm_least_lots ["self"] (defScope s_least_lots) :=
  ⟨rfl, rfl, rfl, by decide +kernel, rfl, by decide +kernel, by decide +kernel⟩
abbrev nm_guarded_ring : List Str := ["seekers", "need", "spare", "text", "first"]
theorem sc_guarded_ring : FnScope nm_guarded_ring ["seekers", "need"] (defScope s_guarded_ring) :=
  ⟨rfl, rfl, rfl, by decide +kernel, rfl, by decide +kernel, by decide +kernel⟩
abbrev nm_open : List Str := ["_law_script"]
theorem sc_open : FnScope nm_open ["_law_script"] (defScope s_open) :=
  ⟨rfl, rfl, rfl, by decide +kernel, rfl, by decide +kernel, by decide +kernel⟩
abbrev nm_draw : List Str := ["_law_state", "_law_many", "_law_cell", "_law_digit"]
theorem sc_draw : FnScope nm_draw ["_law_state", "_law_many"] (defScope s_draw) :=
  ⟨rfl, rfl, rfl, by decide +kernel, rfl, by decide +kernel, by decide +kernel⟩
abbrev nm_number : List Str := ["_law_state", "_law_word", "_law_k", "_law_many", "_law_left", "_law_digit"]
theorem sc_number : FnScope nm_number ["_law_state"] (defScope s_number) :=
  ⟨rfl, rfl, rfl, by decide +kernel, rfl, by decide +kernel, by decide +kernel⟩
abbrev nm_text : List Str := ["_law_state", "_law_many", "_law_share", "_law_text_here", "_law_k", "_law_at"]
theorem sc_text : FnScope nm_text ["_law_state"] (defScope s_text) :=
  ⟨rfl, rfl, rfl, by decide +kernel, rfl, by decide +kernel, by decide +kernel⟩
abbrev nm_faults : List Str := ["_law_state", "_law_text_here", "_law_many", "_law_faults_here", "_law_k"]
theorem sc_faults : FnScope nm_faults ["_law_state", "_law_text_here", "_law_many"] (defScope s_faults) :=
  ⟨rfl, rfl, rfl, by decide +kernel, rfl, by decide +kernel, by decide +kernel⟩
abbrev nm_zone : List Str := ["_law_text_here", "_law_stretch", "_law_sign"]
theorem sc_zone : FnScope nm_zone ["_law_text_here", "_law_stretch"] (defScope s_zone) :=
  ⟨rfl, rfl, rfl, by decide +kernel, rfl, by decide +kernel, by decide +kernel⟩
abbrev nm_open_at : List Str := ["_law_text_here", "_law_faults_here", "_law_stretch", "_law_fault"]
theorem sc_open_at : FnScope nm_open_at ["_law_text_here", "_law_faults_here", "_law_stretch"] (defScope s_open_at) :=
  ⟨rfl, rfl, rfl, by decide +kernel, rfl, by decide +kernel, by decide +kernel⟩
abbrev nm_passed : List Str := ["_law_text_here", "_law_faults_here", "_law_stretches", "_law_k"]
theorem sc_passed : FnScope nm_passed ["_law_text_here", "_law_faults_here", "_law_stretches"] (defScope s_passed) :=
  ⟨rfl, rfl, rfl, by decide +kernel, rfl, by decide +kernel, by decide +kernel⟩
abbrev nm_spots : List Str := ["_law_text_here", "_law_at"]
theorem sc_spots : FnScope nm_spots ["_law_text_here"] (defScope s_spots) :=
  ⟨rfl, rfl, rfl, by decide +kernel, rfl, by decide +kernel, by decide +kernel⟩
abbrev nm_heard : List Str := ["_law_text_here", "_law_faults_here", "_law_spots_here", "_law_found", "_law_seeker", "_law_left", "_law_right"]
theorem sc_heard : FnScope nm_heard ["_law_text_here", "_law_faults_here"] (defScope s_heard) :=
  ⟨rfl, rfl, rfl, by decide +kernel, rfl, by decide +kernel, by decide +kernel⟩
abbrev nm_made : List Str := ["_law_box", "_law_text_here", "_law_bar", "_law_steps", "_law_least", "_law_what", "_law_made_here", "e"]
theorem sc_made : FnScope nm_made ["_law_box", "_law_text_here", "_law_bar", "_law_steps", "_law_least"] (defScope s_made) :=
  ⟨rfl, rfl, rfl, by decide +kernel, rfl, by decide +kernel, by decide +kernel⟩
abbrev nm_order : List Str := ["_law_text_here", "_law_lot", "_law_fault"]
theorem sc_order : FnScope nm_order ["_law_text_here", "_law_lot"] (defScope s_order) :=
  ⟨rfl, rfl, rfl, by decide +kernel, rfl, by decide +kernel, by decide +kernel⟩
abbrev nm_lots : List Str := ["_law_text_here", "_law_least", "_law_lots_here", "_law_before", "_law_lot", "_law_places", "_law_fault"]
theorem sc_lots : FnScope nm_lots ["_law_text_here", "_law_least", "_law_lots_here"] (defScope s_lots) :=
  ⟨rfl, rfl, rfl, by decide +kernel, rfl, by decide +kernel, by decide +kernel⟩
abbrev nm_silent : List Str := ["_law_house", "_law_faults_here"]
theorem sc_silent : FnScope nm_silent ["_law_house", "_law_faults_here"] (defScope s_silent) :=
  ⟨rfl, rfl, rfl, by decide +kernel, rfl, by decide +kernel, by decide +kernel⟩
abbrev nm_within : List Str := ["_law_lots_here", "_law_faults_here", "_law_lot", "_law_fault"]
theorem sc_within : FnScope nm_within ["_law_lots_here", "_law_faults_here"] (defScope s_within) :=
  ⟨rfl, rfl, rfl, by decide +kernel, rfl, by decide +kernel, by decide +kernel⟩
abbrev nm_guarded : List Str := ["_law_state", "_law_many", "_law_least", "_law_told", "_law_size", "_law_openers", "_law_zone_here"]
theorem sc_guarded : FnScope nm_guarded ["_law_state"] (defScope s_guarded) :=
  ⟨rfl, rfl, rfl, by decide +kernel, rfl, by decide +kernel, by decide +kernel⟩
abbrev nm_wwrong : List Str := ["_law_state", "_law_box", "_law_text_here", "_law_many", "_law_good", "_law_menus", "_law_words", "_law_due", "_law_k", "_law_told", "_law_size", "_law_what", "e"]
theorem sc_wwrong : FnScope nm_wwrong ["_law_state", "_law_box", "_law_text_here", "_law_many"] (defScope s_wwrong) :=
  ⟨rfl, rfl, rfl, by decide +kernel, rfl, by decide +kernel, by decide +kernel⟩
abbrev nm_exchanged : List Str := ["_law_house", "_law_text_here", "_law_bar", "_law_steps", "_law_least", "_law_box", "_law_ring", "_law_others", "_law_other", "_law_due"]
theorem sc_exchanged : FnScope nm_exchanged ["_law_house", "_law_text_here", "_law_bar", "_law_steps", "_law_least"] (defScope s_exchanged) :=
  ⟨rfl, rfl, rfl, by decide +kernel, rfl, by decide +kernel, by decide +kernel⟩
abbrev nm_kept_out : List Str := ["_law_house", "_law_told", "e"]
theorem sc_kept_out : FnScope nm_kept_out ["_law_house"] (defScope s_kept_out) :=
  ⟨rfl, rfl, rfl, by decide +kernel, rfl, by decide +kernel, by decide +kernel⟩
abbrev nm_changed : List Str := ["_law_state", "_law_house", "_law_text_here", "_law_bar", "_law_steps", "_law_least", "_law_same", "_law_lower", "_law_what", "e"]
theorem sc_changed : FnScope nm_changed ["_law_state", "_law_house", "_law_text_here", "_law_bar", "_law_steps", "_law_least"] (defScope s_changed) :=
  ⟨rfl, rfl, rfl, by decide +kernel, rfl, by decide +kernel, by decide +kernel⟩
abbrev nm_law : List Str := ["_law_script", "_law_state", "_law_text_here", "_law_many", "_law_least", "_law_bar", "_law_steps", "_law_box", "_law_what", "_law_house", "_law_lots_here", "_law_lot", "_law_turn", "_law_faults_here", "_law_due", "_law_told"]
theorem sc_law : FnScope nm_law ["_law_script"] (defScope s_law) :=
  ⟨rfl, rfl, rfl, by decide +kernel, rfl, by decide +kernel, by decide +kernel⟩
set_option genInjectivity false in
set_option genSizeOf false in
set_option genSizeOfSpec false in
structure Txt (K : PySem.W.Frag) (mg : Str → Option Value) where
  C : Addr
  HC : Addr
  gC : mg "Ring" = some (.ref C)
  clC : Cls K C
  nT : NoAttr K C "text"
  nS : NoAttr K C "seekers"
  nZ : NoAttr K C "zones"
  gHC : mg "House" = some (.ref HC)
  clHC : Cls K HC
  nBo : NoAttr K HC "box"
  nRi : NoAttr K HC "ring"
  nMa : NoAttr K HC "mark"
  nRo : NoAttr K HC "rows"
  nNe : NoAttr K HC "need"
  nLa : NoAttr K HC "layout"
  nSk : NoAttr K HC "seekers"
  isi : SlX.SIsi K HC
  kS : PySem.W.kitOne K (.ref HC) (.ref HC) = some true
  sfC : PySem.W.notFirst K HC (.ref HC) = true
  CH : Addr
  fH : Addr
  lowH : PySem.LowH.LowTxt K mg CH fH
  CR : Addr
  fR : Addr
  lowR : PySem.LowR.LowTxt K mg CR fR
  CF : Addr
  fF : Addr
  lowF : PySem.LowF.LowTxt K mg CF fF
  Wc : Addr
  gWc : mg "WheelError" = some (.ref Wc)
  kWR : PySem.W.kitOne K (.ref CH) (.ref Wc) = some true
  xcR : ExcC K CH
  cliR : (PySem.W.clsIn K CH).isSome = true
  kVR : PySem.W.kitOne K (.ref CH) (.type "ValueError") = some true
  a_is_whole : Addr
  d_is_whole : FuncData
  F_is_whole : Fun K "is_whole" "is_whole" s_is_whole a_is_whole d_is_whole
  b_is_whole : Binds K d_is_whole ["thing"] []
  g_is_whole : mg "is_whole" = some (.ref a_is_whole)
  a_is_whole_within : Addr
  d_is_whole_within : FuncData
  F_is_whole_within : Fun K "is_whole_within" "is_whole_within" s_is_whole_within a_is_whole_within d_is_whole_within
  b_is_whole_within : Binds K d_is_whole_within ["thing", "low", "high"] []
  g_is_whole_within : mg "is_whole_within" = some (.ref a_is_whole_within)
  a_is_number : Addr
  d_is_number : FuncData
  F_is_number : Fun K "is_number" "is_number" s_is_number a_is_number d_is_number
  b_is_number : Binds K d_is_number ["thing"] []
  g_is_number : mg "is_number" = some (.ref a_is_number)
  a_is_ring_text : Addr
  d_is_ring_text : FuncData
  F_is_ring_text : Fun K "is_ring_text" "is_ring_text" s_is_ring_text a_is_ring_text d_is_ring_text
  b_is_ring_text : Binds K d_is_ring_text ["thing"] []
  g_is_ring_text : mg "is_ring_text" = some (.ref a_is_ring_text)
  a_zones_of : Addr
  d_zones_of : FuncData
  F_zones_of : Fun K "zones_of" "zones_of" s_zones_of a_zones_of d_zones_of
  b_zones_of : Binds K d_zones_of ["text"] []
  g_zones_of : mg "zones_of" = some (.ref a_zones_of)
  a_init : Addr
  d_init : FuncData
  F_init : Fun K "__init__" "Ring.__init__" s_init a_init d_init
  b_init : Binds K d_init ["self", "text"] []
  mk_init : Mk K C a_init
  a_all_faults : Addr
  d_all_faults : FuncData
  F_all_faults : Fun K "all_faults" "Ring.all_faults" s_all_faults a_all_faults d_all_faults
  b_all_faults : Binds K d_all_faults ["self"] []
  m_all_faults : Meth K C "all_faults" a_all_faults
  a_check_fault : Addr
  d_check_fault : FuncData
  F_check_fault : Fun K "check_fault" "Ring.check_fault" s_check_fault a_check_fault d_check_fault
  b_check_fault : Binds K d_check_fault ["self", "thing"] []
  m_check_fault : Meth K C "check_fault" a_check_fault
  a_check_faults : Addr
  d_check_faults : FuncData
  F_check_faults : Fun K "check_faults" "Ring.check_faults" s_check_faults a_check_faults d_check_faults
  b_check_faults : Binds K d_check_faults ["self", "faults"] []
  m_check_faults : Meth K C "check_faults" a_check_faults
  a_zone_of : Addr
  d_zone_of : FuncData
  F_zone_of : Fun K "zone_of" "Ring.zone_of" s_zone_of a_zone_of d_zone_of
  b_zone_of : Binds K d_zone_of ["self", "stretch"] []
  m_zone_of : Meth K C "zone_of" a_zone_of
  a_closed_stretches : Addr
  d_closed_stretches : FuncData
  F_closed_stretches : Fun K "closed_stretches" "Ring.closed_stretches" s_closed_stretches a_closed_stretches d_closed_stretches
  b_closed_stretches : Binds K d_closed_stretches ["self", "faults"] []
  m_closed_stretches : Meth K C "closed_stretches" a_closed_stretches
  a_passed_from : Addr
  d_passed_from : FuncData
  F_passed_from : Fun K "passed_from" "Ring.passed_from" s_passed_from a_passed_from d_passed_from
  b_passed_from : Binds K d_passed_from ["self", "end", "faults"] []
  m_passed_from : Meth K C "passed_from" a_passed_from
  a_reached : Addr
  d_reached : FuncData
  F_reached : Fun K "reached" "Ring.reached" s_reached a_reached d_reached
  b_reached : Binds K d_reached ["self", "faults"] []
  m_reached : Meth K C "reached" a_reached
  a_hinit : Addr
  d_hinit : FuncData
  F_hinit : FunD K "__init__" "House.__init__" (defArgs s_hinit) (defBody s_hinit) (defScope s_hinit) [] [("need", V.int 1)] a_hinit d_hinit
  mk_hinit : Mk K HC a_hinit
  a_heq : Addr
  d_heq : FuncData
  F_heq : Fun K "__eq__" "House.__eq__" s_heq a_heq d_heq
  b_heq : Binds K d_heq ["self", "other"] []
  m_heq : Meth K HC "__eq__" a_heq
  a_with_rules : Addr
  d_with_rules : FuncData
  F_with_rules : FunD K "with_rules" "House.with_rules" (defArgs s_with_rules) (defBody s_with_rules) (defScope s_with_rules) [] [("ring", V.non), ("mark", V.non), ("rows", V.non), ("need", V.non)] a_with_rules d_with_rules
  m_with_rules : Meth K HC "with_rules" a_with_rules
  a_is_silent : Addr
  d_is_silent : FuncData
  F_is_silent : Fun K "is_silent" "House.is_silent" s_is_silent a_is_silent d_is_silent
  m_is_silent : Meth K HC "is_silent" a_is_silent
  a_silent_faults : Addr
  d_silent_faults : FuncData
  F_silent_faults : Fun K "silent_faults" "House.silent_faults" s_silent_faults a_silent_faults d_silent_faults
  b_silent_faults : Binds K d_silent_faults ["self"] []
  m_silent_faults : Meth K HC "silent_faults" a_silent_faults
  a_least_lots : Addr
  d_least_lots : FuncData
  F_least_lots : Fun K "least_lots" "House.least_lots" s_least_lots a_least_lots d_least_lots
  b_least_lots : Binds K d_least_lots ["self"] []
  m_least_lots : Meth K HC "least_lots" a_least_lots
  a_guarded_ring : Addr
  d_guarded_ring : FuncData
  F_guarded_ring : Fun K "guarded_ring" "guarded_ring" s_guarded_ring a_guarded_ring d_guarded_ring
  b_guarded_ring : Binds K d_guarded_ring ["seekers", "need"] []
  g_guarded_ring : mg "guarded_ring" = some (.ref a_guarded_ring)
  a_open : Addr
  d_open : FuncData
  F_open : Fun K "_law_open" "_law_open" s_open a_open d_open
  b_open : Binds K d_open ["_law_script"] []
  g_open : mg "_law_open" = some (.ref a_open)
  a_draw : Addr
  d_draw : FuncData
  F_draw : Fun K "_law_draw" "_law_draw" s_draw a_draw d_draw
  b_draw : Binds K d_draw ["_law_state", "_law_many"] []
  g_draw : mg "_law_draw" = some (.ref a_draw)
  a_number : Addr
  d_number : FuncData
  F_number : Fun K "_law_number" "_law_number" s_number a_number d_number
  b_number : Binds K d_number ["_law_state"] []
  g_number : mg "_law_number" = some (.ref a_number)
  a_text : Addr
  d_text : FuncData
  F_text : Fun K "_law_text" "_law_text" s_text a_text d_text
  b_text : Binds K d_text ["_law_state"] []
  g_text : mg "_law_text" = some (.ref a_text)
  a_faults : Addr
  d_faults : FuncData
  F_faults : Fun K "_law_faults" "_law_faults" s_faults a_faults d_faults
  b_faults : Binds K d_faults ["_law_state", "_law_text_here", "_law_many"] []
  g_faults : mg "_law_faults" = some (.ref a_faults)
  a_zone : Addr
  d_zone : FuncData
  F_zone : Fun K "_law_zone" "_law_zone" s_zone a_zone d_zone
  b_zone : Binds K d_zone ["_law_text_here", "_law_stretch"] []
  g_zone : mg "_law_zone" = some (.ref a_zone)
  a_open_at : Addr
  d_open_at : FuncData
  F_open_at : Fun K "_law_open_at" "_law_open_at" s_open_at a_open_at d_open_at
  b_open_at : Binds K d_open_at ["_law_text_here", "_law_faults_here", "_law_stretch"] []
  g_open_at : mg "_law_open_at" = some (.ref a_open_at)
  a_passed : Addr
  d_passed : FuncData
  F_passed : Fun K "_law_passed" "_law_passed" s_passed a_passed d_passed
  b_passed : Binds K d_passed ["_law_text_here", "_law_faults_here", "_law_stretches"] []
  g_passed : mg "_law_passed" = some (.ref a_passed)
  a_spots : Addr
  d_spots : FuncData
  F_spots : Fun K "_law_spots" "_law_spots" s_spots a_spots d_spots
  b_spots : Binds K d_spots ["_law_text_here"] []
  g_spots : mg "_law_spots" = some (.ref a_spots)
  a_heard : Addr
  d_heard : FuncData
  F_heard : Fun K "_law_heard" "_law_heard" s_heard a_heard d_heard
  b_heard : Binds K d_heard ["_law_text_here", "_law_faults_here"] []
  g_heard : mg "_law_heard" = some (.ref a_heard)
  a_made : Addr
  d_made : FuncData
  F_made : Fun K "_law_made" "_law_made" s_made a_made d_made
  b_made : Binds K d_made ["_law_box", "_law_text_here", "_law_bar", "_law_steps", "_law_least"] []
  g_made : mg "_law_made" = some (.ref a_made)
  a_order : Addr
  d_order : FuncData
  F_order : Fun K "_law_order" "_law_order" s_order a_order d_order
  b_order : Binds K d_order ["_law_text_here", "_law_lot"] []
  g_order : mg "_law_order" = some (.ref a_order)
  a_lots : Addr
  d_lots : FuncData
  F_lots : Fun K "_law_lots" "_law_lots" s_lots a_lots d_lots
  b_lots : Binds K d_lots ["_law_text_here", "_law_least", "_law_lots_here"] []
  g_lots : mg "_law_lots" = some (.ref a_lots)
  a_silent : Addr
  d_silent : FuncData
  F_silent : Fun K "_law_silent" "_law_silent" s_silent a_silent d_silent
  b_silent : Binds K d_silent ["_law_house", "_law_faults_here"] []
  g_silent : mg "_law_silent" = some (.ref a_silent)
  a_within : Addr
  d_within : FuncData
  F_within : Fun K "_law_within" "_law_within" s_within a_within d_within
  b_within : Binds K d_within ["_law_lots_here", "_law_faults_here"] []
  g_within : mg "_law_within" = some (.ref a_within)
  a_guarded : Addr
  d_guarded : FuncData
  F_guarded : Fun K "_law_guarded" "_law_guarded" s_guarded a_guarded d_guarded
  b_guarded : Binds K d_guarded ["_law_state"] []
  g_guarded : mg "_law_guarded" = some (.ref a_guarded)
  a_wwrong : Addr
  d_wwrong : FuncData
  F_wwrong : Fun K "_law_wrong" "_law_wrong" s_wwrong a_wwrong d_wwrong
  b_wwrong : Binds K d_wwrong ["_law_state", "_law_box", "_law_text_here", "_law_many"] []
  g_wwrong : mg "_law_wrong" = some (.ref a_wwrong)
  a_exchanged : Addr
  d_exchanged : FuncData
  F_exchanged : Fun K "_law_exchanged" "_law_exchanged" s_exchanged a_exchanged d_exchanged
  b_exchanged : Binds K d_exchanged ["_law_house", "_law_text_here", "_law_bar", "_law_steps", "_law_least"] []
  g_exchanged : mg "_law_exchanged" = some (.ref a_exchanged)
  a_kept_out : Addr
  d_kept_out : FuncData
  F_kept_out : Fun K "_law_kept_out" "_law_kept_out" s_kept_out a_kept_out d_kept_out
  b_kept_out : Binds K d_kept_out ["_law_house"] []
  g_kept_out : mg "_law_kept_out" = some (.ref a_kept_out)
  a_changed : Addr
  d_changed : FuncData
  F_changed : Fun K "_law_changed" "_law_changed" s_changed a_changed d_changed
  b_changed : Binds K d_changed ["_law_state", "_law_house", "_law_text_here", "_law_bar", "_law_steps", "_law_least"] []
  g_changed : mg "_law_changed" = some (.ref a_changed)
  a_law : Addr
  d_law : FuncData
  F_law : Fun K "law" "law" s_law a_law d_law
  b_law : Binds K d_law ["_law_script"] []
  g_law : mg "law" = some (.ref a_law)
  t_DIGITS : Tok
  c_DIGITS : mg "DIGITS" = some (.str "123456789" t_DIGITS)
  t_MOST_DIGITS : Tok
  c_MOST_DIGITS : mg "MOST_DIGITS" = some (.int 4 t_MOST_DIGITS)
  t_GREATEST_SUM : Tok
  c_GREATEST_SUM : mg "GREATEST_SUM" = some (.int 24 t_GREATEST_SUM)
  t_MOST_SIGNS : Tok
  c_MOST_SIGNS : mg "MOST_SIGNS" = some (.int 10 t_MOST_SIGNS)
  t_SEEKER : Tok
  c_SEEKER : mg "SEEKER" = some (.str "s" t_SEEKER)
  t_OPENER : Tok
  c_OPENER : mg "OPENER" = some (.str "o" t_OPENER)
  t_CUT : Tok
  c_CUT : mg "CUT" = some (.str "cut" t_CUT)
  t_SHORT : Tok
  c_SHORT : mg "SHORT" = some (.str "short" t_SHORT)
  t_LEFT : Tok
  c_LEFT : mg "LEFT" = some (.str "left" t_LEFT)
  t_RIGHT : Tok
  c_RIGHT : mg "RIGHT" = some (.str "right" t_RIGHT)
  t_MOST_ROWS : Tok
  c_MOST_ROWS : mg "MOST_ROWS" = some (.int 8 t_MOST_ROWS)
  z_ValueError : mg "ValueError" = none
  z_abs : mg "abs" = none
  z_all : mg "all" = none
  z_bool : mg "bool" = none
  z_enumerate : mg "enumerate" = none
  z_int : mg "int" = none
  z_isinstance : mg "isinstance" = none
  z_len : mg "len" = none
  z_list : mg "list" = none
  z_min : mg "min" = none
  z_range : mg "range" = none
  z_set : mg "set" = none
  z_sorted : mg "sorted" = none
  z_str : mg "str" = none
  z_sum : mg "sum" = none
  z_tuple : mg "tuple" = none
  aEq : PySem.W.findIn K (.ref HC) (cmpInfo .Eq).2.1 = some (some (.ref a_heq))
  iEq : PySem.W.isFn K (.ref a_heq) = true
  kbH3 : KBn K d_hinit ["self", "box", "ring", "mark", "rows", "need"] 3 ["mark", "rows", "need"] (fun us ws => us ++ ws) (fun vs zs => vs ++ zs)
  mH : List Value
  kbH2 : KBn K d_hinit ["self", "box", "ring", "mark", "rows", "need"] 3 ["mark", "rows"] (fun us ws => us ++ ws ++ mH) (fun vs zs => vs ++ zs ++ [V.int 1])
  mW : List Value
  kwW : KBn K d_with_rules ["self", "ring", "mark", "rows", "need"] 1 [] (fun us ws => us ++ (mW)) (fun vs zs => vs ++ ([V.non, V.non, V.non, V.non]))
  mWM : List Value
  kwWM : KBn K d_with_rules ["self", "ring", "mark", "rows", "need"] 1 ["mark"] (fun us ws => us ++ (mWM.take 1 ++ ws ++ mWM.drop 1)) (fun vs zs => vs ++ ([V.non, V.non, V.non].take 1 ++ zs ++ [V.non, V.non, V.non].drop 1))
  mWR : List Value
  kwWR : KBn K d_with_rules ["self", "ring", "mark", "rows", "need"] 1 ["rows"] (fun us ws => us ++ (mWR.take 2 ++ ws ++ mWR.drop 2)) (fun vs zs => vs ++ ([V.non, V.non, V.non].take 2 ++ zs ++ [V.non, V.non, V.non].drop 2))
  mWG : List Value
  kwWG : KBn K d_with_rules ["self", "ring", "mark", "rows", "need"] 1 ["ring"] (fun us ws => us ++ (ws ++ mWG)) (fun vs zs => vs ++ (zs ++ [V.non, V.non, V.non]))
  mWN : List Value
  kwWN : KBn K d_with_rules ["self", "ring", "mark", "rows", "need"] 1 ["need"] (fun us ws => us ++ (mWN ++ ws)) (fun vs zs => vs ++ ([V.non, V.non, V.non] ++ zs))
  mWGN : List Value
  kwWGN : KBn K d_with_rules ["self", "ring", "mark", "rows", "need"] 1 ["ring", "need"] (fun us ws => us ++ (ws.take 1 ++ mWGN ++ ws.drop 1)) (fun vs zs => vs ++ (zs.take 1 ++ [V.non, V.non] ++ zs.drop 1))
  mWGR : List Value
  kwWGR : KBn K d_with_rules ["self", "ring", "mark", "rows", "need"] 1 ["ring", "rows"] (fun us ws => us ++ (ws.take 1 ++ mWGR.take 1 ++ ws.drop 1 ++ mWGR.drop 1)) (fun vs zs => vs ++ (zs.take 1 ++ [V.non, V.non].take 1 ++ zs.drop 1 ++ [V.non, V.non].drop 1))
  mWNM : List Value
  kwWNM : KBn K d_with_rules ["self", "ring", "mark", "rows", "need"] 1 ["need", "mark"] (fun us ws => us ++ (mWNM.take 1 ++ ws.drop 1 ++ mWNM.drop 1 ++ ws.take 1)) (fun vs zs => vs ++ ([V.non, V.non].take 1 ++ zs.drop 1 ++ [V.non, V.non].drop 1 ++ zs.take 1))
end K51

/-! The promises. -/
namespace K51
open PySem L2 Wm Dv Rm Lo
def wdS (b : Bool) : Str := if b then "cut" else "short"
def ftD (f : Ft) : PyData := .tuple [.str (wdS f.1), .int ((f.2 : Nat) : Int)]
def natsD (z : List Nat) : PyData := .tuple (z.map fun n => PyData.int ((n : Nat) : Int))
def zonesD (l : List Bool) : PyData := .tuple ((zones l).map natsD)
def nV (z : List Nat) : List V := z.map fun n => V.int ((n : Nat) : Int)
def RingAt (K : PySem.W.Frag) (C : Addr) (H : Hp) (p : Addr) (l : List Bool) : Prop :=
  ∃ dx fs y, H p = some (.ins C dx fs) ∧ fs.lookup ("text" : Str) = some (.str (rgS l)) ∧ fs.lookup ("seekers" : Str) = some (.int ((l.count true : Nat) : Int)) ∧ fs.lookup ("zones" : Str) = some y ∧
    (∀ m : Str, m ≠ "text" → m ≠ "seekers" → m ≠ "zones" → fs.lookup m = none) ∧ Dt K H y (zonesD l)
/-- what may be asked whether it is a whole number, and which -/
inductive Thing (K : PySem.W.Frag) (H : Hp) : V → Option Int → Prop
  | int (i : Int) : Thing K H (.int i) (some i)
  | bl (b : Bool) : Thing K H (.bl b) none
  | str (s : Str) : Thing K H (.str s) none
  | non : Thing K H .non none
  | emp {p : Addr} : SqT K H p [] → Thing K H (.ref p) none
def within (lo hi : Int) : Option Int → Bool
  | some i => decide (lo ≤ i) && decide (i ≤ hi)
  | none => false
def Er (C : Addr) (f : Str) (E : XK) (H : Hp) (x : V) : Prop := ∀ H' d, Same H H' → H' d = some (.xd [(f, x)]) → E (.ref C) (some d) H'
theorem Er.after {C : Addr} {f : Str} {E : XK} {H H1 : Hp} {x : V} (h : Er C f E H x) (s : Same H H1) : Er C f E H1 x := fun H' d s' e => h H' d (s.trans s') e
def sp_is_whole (K : PySem.W.Frag) : Sp := fun vs H Q _ => ∃ x o, vs = [x] ∧ Thing K H x o ∧ Q (.bl o.isSome) H
def sp_is_whole_within (K : PySem.W.Frag) : Sp := fun vs H Q _ => ∃ x o, ∃ lo hi : Int, vs = [x, .int lo, .int hi] ∧ Thing K H x o ∧ Q (.bl (within lo hi o)) H
/-- no text -/
def NoStr (K : PySem.W.Frag) (H : Hp) (x : V) : Prop := ∃ T : String, (∀ H', Same H H' → TyX K H' x (.type T)) ∧ PySem.W.kitOne K (.type T) (.type "str") = some false
def sp_is_ring_text (K : PySem.W.Frag) : Sp := fun vs H Q _ => ∃ x, vs = [x] ∧ ((∃ t : Str, x = .str t ∧ t.length ≤ 100 ∧ ∀ H' b, Same H H' → (b = true ↔ IsRing t) → Q (.bl b) H') ∨ (NoStr K H x ∧ Q (.bl false) H))
def sp_zones_of (K : PySem.W.Frag) : Sp := fun vs H Q _ => ∃ l : List Bool, vs = [.str (rgS l)] ∧ l.length ≤ 10 ∧ ∀ H' y, Same H H' → Dt K H' y (zonesD l) → Q y H'
def sp_init (K : PySem.W.Frag) (C CR : Addr) : Sp := fun vs H Q E => ∃ (p dx : Addr) (x : V), vs = [.ref p, x] ∧ H p = some (.ins C dx []) ∧
  ((∃ l, x = .str (rgS l) ∧ Ri l ∧ ∀ H', (∀ q o, q ≠ p → H q = some o → H' q = some o) → RingAt K C H' p l → Q .non H') ∨
   (((∃ t : Str, x = .str t ∧ t.length ≤ 100 ∧ ¬ IsRing t) ∨ NoStr K H x) ∧ Er CR "text" E H x))
def sp_all_faults (K : PySem.W.Frag) (C : Addr) : Sp := fun vs H Q _ => ∃ (p : Addr) (l : List Bool), vs = [.ref p] ∧ RingAt K C H p l ∧ l.length ≤ 10 ∧ ∀ H' y, Same H H' → Dt K H' y (.tuple ((allF (l.length + 1)).map ftD)) → Q y H'
/-- no fault of a ring of n signs -/
inductive Odd (K : PySem.W.Frag) (H : Hp) (n : Nat) : V → Prop
  | non : Odd K H n .non
  | int (i : Int) : Odd K H n (.int i)
  | lst {p : Addr} {xs : List V} : SqL K H p xs → Odd K H n (.ref p)
  | len {p : Addr} {xs : List V} : SqT K H p xs → xs.length ≠ 2 → Odd K H n (.ref p)
  | fst {p : Addr} {a b : V} : SqT K H p [a, b] → flatV a = true → inV a [V.str "cut", V.str "short"] = false → Odd K H n (.ref p)
  | snd {p : Addr} {a b : V} {o : Option Int} : SqT K H p [a, b] → flatV a = true → Thing K H b o → within 0 n o = false → Odd K H n (.ref p)
theorem Thing.k {K : PySem.W.Frag} {H H' : Hp} {x : V} {o : Option Int} (h : Thing K H x o) (s : Same H H') : Thing K H' x o := by
  cases h with
  | int i => exact .int i
  | bl b => exact .bl b
  | str b => exact .str b
  | non => exact .non
  | emp q => exact .emp (sameT s q)
theorem Odd.k {K : PySem.W.Frag} {H H' : Hp} {n : Nat} {x : V} (h : Odd K H n x) (s : Same H H') : Odd K H' n x := by
  cases h with
  | non => exact .non
  | int i => exact .int i
  | lst h => exact .lst (Hf.keepL s h)
  | len h e => exact .len (sameT s h) e
  | fst h a b => exact .fst (sameT s h) a b
  | snd h a t b => exact .snd (sameT s h) a (t.k s) b
/-- faults as a list or a tuple -/
def FtsAt (K : PySem.W.Frag) (H : Hp) (q : Addr) (fs : List Ft) : Prop := ∃ t xs, Kd.Is K t H q xs ∧ Dts K H xs (fs.map ftD)
theorem FtsAt.k {K : PySem.W.Frag} {H H' : Hp} {q : Addr} {fs : List Ft} (h : FtsAt K H q fs) (s : Same H H') : FtsAt K H' q fs := by
  obtain ⟨t, xs, a, b⟩ := h
  exact ⟨t, xs, a.keep s, b.k (Kt.same s)⟩
/-- all of them are stretches of n signs -/
def FOk (n : Nat) (fs : List Ft) : Prop := fs.length ≤ 20 ∧ ∀ f ∈ fs, f.2 ≤ n
/-- a row whose first odd one is x -/
def MixAt (K : PySem.W.Frag) (H : Hp) (q : Addr) (n : Nat) (x : V) : Prop := ∃ (t : Bool) (pre post : List V) (fs : List Ft), Kd.Is K t H q (pre ++ x :: post) ∧ Dts K H pre (fs.map ftD) ∧ FOk n fs ∧ Odd K H n x
theorem MixAt.k {K : PySem.W.Frag} {H H' : Hp} {q : Addr} {n : Nat} {x : V} (h : MixAt K H q n x) (s : Same H H') : MixAt K H' q n x := by
  obtain ⟨t, pre, post, fs, a, b, c, d⟩ := h
  exact ⟨t, pre, post, fs, a.keep s, b.k (Kt.same s), c, d.k s⟩
def sp_check_fault (K : PySem.W.Frag) (C CF : Addr) : Sp := fun vs H Q E => ∃ (p : Addr) (x : V) (l : List Bool), vs = [.ref p, x] ∧ RingAt K C H p l ∧ l.length ≤ 10 ∧
  ((∃ f : Ft, Dt K H x (ftD f) ∧ f.2 ≤ l.length ∧ ∀ H', Same H H' → Q .non H') ∨ (Odd K H l.length x ∧ Er CF "fault" E H x))
def sp_check_faults (K : PySem.W.Frag) (C CF : Addr) : Sp := fun vs H Q E => ∃ (p q : Addr) (l : List Bool), vs = [.ref p, .ref q] ∧ RingAt K C H p l ∧ l.length ≤ 10 ∧
  ((∃ fs, FtsAt K H q fs ∧ FOk l.length fs ∧ ∀ H', Same H H' → Q .non H') ∨ ∃ x, MixAt K H q l.length x ∧ Er CF "fault" E H x)
def sp_zone_of (K : PySem.W.Frag) (C : Addr) : Sp := fun vs H Q _ => ∃ (p : Addr) (k : Nat) (l : List Bool), vs = [.ref p, .int ((k : Nat) : Int)] ∧ RingAt K C H p l ∧ l.length ≤ 10 ∧ Q (.int ((zone l k : Nat) : Int)) H
def sp_closed_stretches (K : PySem.W.Frag) (C : Addr) : Sp := fun vs H Q _ => ∃ (p q : Addr) (l : List Bool) (fs : List Ft), vs = [.ref p, .ref q] ∧ RingAt K C H p l ∧ l.length ≤ 10 ∧ FtsAt K H q fs ∧ FOk l.length fs ∧
  ∀ H' r, Same H H' → H r = none → H' r = some (.lst ((List.range (l.length + 1)).map fun k => V.bl (!opn l fs k))) → Q (.ref r) H'
def endS (b : Bool) : Str := if b then "left" else "right"
def walkL (b : Bool) (l : List Bool) (fs : List Ft) : List Nat := if b then leftL l (opn l fs) else (rightL l (opn l fs)).reverse
def sp_passed_from (K : PySem.W.Frag) (C : Addr) : Sp := fun vs H Q _ => ∃ (p q : Addr) (b : Bool) (l : List Bool) (fs : List Ft), vs = [.ref p, .str (endS b), .ref q] ∧ RingAt K C H p l ∧ l.length ≤ 10 ∧ FtsAt K H q fs ∧ FOk l.length fs ∧
  ∀ H' r, Same H H' → H r = none → H' r = some (.lst (nV (walkL b l fs))) → Q (.ref r) H'
def sp_reached (K : PySem.W.Frag) (C CF : Addr) : Sp := fun vs H Q E => ∃ (p q : Addr) (l : List Bool), vs = [.ref p, .ref q] ∧ RingAt K C H p l ∧ l.length ≤ 10 ∧
  ((∃ fs, FtsAt K H q fs ∧ FOk l.length fs ∧ ∀ H' r, Same H H' → H r = none → H' r = some (.tup (nV (heardL l (opn l fs)))) → Q (.ref r) H') ∨ ∃ x, MixAt K H q l.length x ∧ Er CF "fault" E H x)
/-- no word of an end -/
def NoEnd (e : V) : Prop := flatV e = true ∧ inV e [V.str "left", V.str "right"] = false
def sp_open (K : PySem.W.Frag) : Sp := fun vs H Q _ => ∃ (a : Addr) (ns : List Int), vs = [.ref a] ∧ SqL K H a (ns.map V.int) ∧ ns.length ≤ 63 ∧ ∀ H' b, Same H H' → Bg H' b 0 → Q (.ref b) H'
def sp_draw (K : PySem.W.Frag) : Sp := fun vs H Q _ => ∃ (b : Addr) (n : Nat) (lim : Int), vs = [.ref b, .int lim] ∧ 0 < lim ∧ lim < 2 ^ 100 ∧ Bg H b n ∧ n ≤ 1000000 ∧
  ∀ H' d, 0 ≤ d → d < lim → Bg H' b (n + 1) → Bt b H H' → Q (.int d) H'
def sp_text (K : PySem.W.Frag) : Sp := fun vs H Q _ => ∃ (b : Addr) (n : Nat), vs = [.ref b] ∧ Bg H b n ∧ n ≤ 900000 ∧ ∀ H' l, Ri l → Bg H' b (n + 30) → Bt b H H' → Q (.str (rgS l)) H'
/-- a new list of faults -/
def sp_faults (K : PySem.W.Frag) : Sp := fun vs H Q _ => ∃ (b : Addr) (n many : Nat) (l : List Bool), vs = [.ref b, .str (rgS l), .int ((many : Nat) : Int)] ∧ many ≤ 10 ∧ l.length ≤ 10 ∧ Bg H b n ∧ n ≤ 900000 ∧
  ∀ H' r (fs : List Ft) (xs : List V), H r = none → fs.length = many → (∀ f ∈ fs, f.2 ≤ l.length) → H' r = some (.lst xs) → Dts K H' xs (fs.map ftD) → Bg H' b (n + 2 * many) → Bt b H H' → Q (.ref r) H'
def sp_zone (K : PySem.W.Frag) : Sp := fun vs H Q _ => ∃ (k : Nat) (l : List Bool), vs = [.str (rgS l), .int ((k : Nat) : Int)] ∧ l.length ≤ 10 ∧ ∀ H', Same H H' → Q (.int ((zone l k : Nat) : Int)) H'
def sp_open_at (K : PySem.W.Frag) : Sp := fun vs H Q _ => ∃ (k : Nat) (q : Addr) (l : List Bool) (fs : List Ft), vs = [.str (rgS l), .ref q, .int ((k : Nat) : Int)] ∧ l.length ≤ 10 ∧ FtsAt K H q fs ∧ FOk l.length fs ∧ ∀ H', Same H H' → Q (.bl (opn l fs k)) H'
def sp_passed (K : PySem.W.Frag) : Sp := fun vs H Q _ => ∃ (q r : Addr) (l : List Bool) (fs : List Ft) (ks : List Nat), vs = [.str (rgS l), .ref q, .ref r] ∧ l.length ≤ 10 ∧ FtsAt K H q fs ∧ FOk l.length fs ∧ H r = some (.lst (nV ks)) ∧ ks.length ≤ 20 ∧
  ∀ H', Same H H' → Q (.bl (ks.all (opn l fs))) H'
def sp_spots (K : PySem.W.Frag) : Sp := fun vs H Q _ => ∃ l : List Bool, vs = [.str (rgS l)] ∧ l.length ≤ 10 ∧ ∀ H' r, Same H H' → H r = none → H' r = some (.lst (nV (sp l))) → Q (.ref r) H'
def sp_heard (K : PySem.W.Frag) : Sp := fun vs H Q _ => ∃ (q : Addr) (l : List Bool) (fs : List Ft), vs = [.str (rgS l), .ref q] ∧ l.length ≤ 10 ∧ FtsAt K H q fs ∧ FOk l.length fs ∧
  ∀ H' r, Same H H' → H r = none → H' r = some (.tup (nV (heardL l (opn l fs)))) → Q (.ref r) H'
/-- data that stands from now on, but for the source of draws -/
structure Odt (K : PySem.W.Frag) (b : Addr) (H : Hp) (x : V) (d : PyData) : Prop where
  dp : ∀ H', Bt b H H' → Dp K H' x d
  lay : d.canLay0 = true
  dep : d.depth ≤ 10
theorem Odt.k {K : PySem.W.Frag} {b : Addr} {H H' : Hp} {x : V} {d : PyData} (h : Odt K b H x d) (e : Bt b H H') : Odt K b H' x d := ⟨fun _ e2 => h.dp _ (e.trans e2), h.lay, h.dep⟩
/-! ### houses -/
def BadBox (K : PySem.W.Frag) (H : Hp) (x : V) : Prop := (∃ t : Str, x = .str t ∧ t.length ≤ 100 ∧ ¬ IsNum t) ∨ NoStr K H x
def BadRg (K : PySem.W.Frag) (H : Hp) (x : V) : Prop := (∃ t : Str, x = .str t ∧ t.length ≤ 100 ∧ ¬ IsRing t) ∨ NoStr K H x
structure Hs where
  ds : List Nat
  l : List Bool
  m : Int
  r : Int
  n : Nat
structure HsOk (h : Hs) : Prop where
  num : Num h.ds
  ri : Ri h.l
  r1 : 1 ≤ h.r
  r8 : h.r ≤ 8
  n1 : 1 ≤ h.n
  nl : h.n ≤ h.l.count true
inductive HOut
  | bad (w : Str)
  | ok (h : Hs)
/-- what a house may be made of, and what comes of it -/
inductive HI (K : PySem.W.Frag) (H : Hp) : V → V → V → V → V → HOut → Prop
  | box {x y a b c : V} : BadBox K H x → HI K H x y a b c (.bad "box")
  | ring {ds : List Nat} {y a b c : V} : Num ds → BadRg K H y → HI K H (.str (numS ds)) y a b c (.bad "ring")
  | mark {ds : List Nat} {l : List Bool} {a b c : V} : Num ds → Ri l → Thing K H a none → HI K H (.str (numS ds)) (.str (rgS l)) a b c (.bad "mark")
  | rows {ds : List Nat} {l : List Bool} {m : Int} {b c : V} {o : Option Int} : Num ds → Ri l → Thing K H b o → within 1 8 o = false → HI K H (.str (numS ds)) (.str (rgS l)) (.int m) b c (.bad "rows")
  | need {ds : List Nat} {l : List Bool} {m r : Int} {c : V} {o : Option Int} : Num ds → Ri l → 1 ≤ r → r ≤ 8 → Thing K H c o → within 1 ((l.count true : Nat) : Int) o = false → HI K H (.str (numS ds)) (.str (rgS l)) (.int m) (.int r) c (.bad "need")
  | ok {h : Hs} : HsOk h → HI K H (.str (numS h.ds)) (.str (rgS h.l)) (.int h.m) (.int h.r) (.int (h.n : Nat)) (.ok h)
def HouseAt (K : PySem.W.Frag) (C HC : Addr) (H : Hp) (p : Addr) (h : Hs) : Prop :=
  ∃ dx fs q, H p = some (.ins HC dx fs) ∧ fs.lookup ("box" : Str) = some (.str (numS h.ds)) ∧ fs.lookup ("ring" : Str) = some (.str (rgS h.l)) ∧ fs.lookup ("mark" : Str) = some (.int h.m) ∧ fs.lookup ("rows" : Str) = some (.int h.r) ∧ fs.lookup ("need" : Str) = some (.int (h.n : Nat)) ∧
    fs.lookup ("layout" : Str) = some (.ref q) ∧ fs.lookup ("seekers" : Str) = some (.int ((h.l.count true : Nat) : Int)) ∧
    (∀ m : Str, m ≠ "box" → m ≠ "ring" → m ≠ "mark" → m ≠ "rows" → m ≠ "need" → m ≠ "layout" → m ≠ "seekers" → fs.lookup m = none) ∧ RingAt K C H q h.l
def sp_is_number (K : PySem.W.Frag) : Sp := fun vs H Q _ => ∃ x, vs = [x] ∧ ((∃ t : Str, x = .str t ∧ t.length ≤ 100 ∧ ∀ H' b, Same H H' → (b = true ↔ IsNum t) → Q (.bl b) H') ∨ (NoStr K H x ∧ Q (.bl false) H))
def HEnd (K : PySem.W.Frag) (C HC CH : Addr) (E : XK) (H : Hp) (o : HOut) (k : Hs → Prop) : Prop := match o with
  | .bad w => Er CH "what" E H (.str w)
  | .ok h => k h
def sp_hinit (K : PySem.W.Frag) (C HC CH : Addr) : Sp := fun vs H Q E => ∃ (p dx : Addr) (x y a b c : V) (o : HOut), vs = [.ref p, x, y, a, b, c] ∧ H p = some (.ins HC dx []) ∧ HI K H x y a b c o ∧
  HEnd K C HC CH E H o fun h => ∀ H', (∀ q o, q ≠ p → H q = some o → H' q = some o) → HouseAt K C HC H' p h → Q .non H'
def eqH (h h2 : Hs) : Bool := decide (V.str (numS h.ds) = V.str (numS h2.ds)) && (decide (V.str (rgS h.l) = V.str (rgS h2.l)) && (decide (V.int h.m = V.int h2.m) && (decide (V.int h.r = V.int h2.r) && decide (V.int (h.n : Nat) = V.int (h2.n : Nat)))))
def sp_heq (K : PySem.W.Frag) (C HC : Addr) : Sp := fun vs H Q _ => ∃ (p p2 : Addr) (h h2 : Hs), vs = [.ref p, .ref p2] ∧ HouseAt K C HC H p h ∧ HouseAt K C HC H p2 h2 ∧ Q (.bl (eqH h h2)) H
/-- faults as the star's tuple -/
def sp_is_silent (K : PySem.W.Frag) (C HC : Addr) : Sp := fun vs H Q _ => ∃ (p q : Addr) (h : Hs) (fs : List Ft), vs = [.ref p, .ref q] ∧ HouseAt K C HC H p h ∧ h.l.length ≤ 10 ∧ FtsAt K H q fs ∧ FOk h.l.length fs ∧ ∀ H', Same H H' → Q (.bl (sil h.l h.n fs)) H'
def sp_silent_faults (K : PySem.W.Frag) (C HC : Addr) : Sp := fun vs H Q _ => ∃ (p : Addr) (h : Hs), vs = [.ref p] ∧ HouseAt K C HC H p h ∧ h.l.length ≤ 10 ∧ ∀ H' u, Same H H' → Dt K H' (.ref u) (.tuple ((singles h.l h.n).map ftD)) → Q (.ref u) H'
def sp_least_lots (K : PySem.W.Frag) (C HC : Addr) : Sp := fun vs H Q _ => ∃ (p : Addr) (h : Hs), vs = [.ref p] ∧ HouseAt K C HC H p h ∧ h.l.length ≤ 10 ∧ ∀ H' u, Same H H' → Dt K H' (.ref u) (.tuple ((lots h.l h.n).map fun lot => .tuple (lot.map ftD))) → Q (.ref u) H'
def optS : Option Str → V
  | none => .non
  | some t => .str t
def optI : Option Int → V
  | none => .non
  | some i => .int i
def sp_with_rules (K : PySem.W.Frag) (C HC CH : Addr) : Sp := fun vs H Q E => ∃ (p : Addr) (h : Hs) (rg : Option Str) (mk rw nd : Option Int) (o : HOut), vs = [.ref p, optS rg, optI mk, optI rw, optI nd] ∧ HouseAt K C HC H p h ∧
  HI K H (.str (numS h.ds)) (.str (rg.getD (rgS h.l))) (.int (mk.getD h.m)) (.int (rw.getD h.r)) (.int (nd.getD (h.n : Nat))) o ∧ HEnd K C HC CH E H o fun h2 => ∀ H' q, Same H H' → H q = none → HouseAt K C HC H' q h2 → Q (.ref q) H'
def lotD (lot : List Ft) : PyData := .tuple (lot.map ftD)
def sp_number (K : PySem.W.Frag) : Sp := fun vs H Q _ => ∃ (b : Addr) (n : Nat), vs = [.ref b] ∧ Bg H b n ∧ n ≤ 900000 ∧ ∀ H' (ds : List Nat), Num ds → Bg H' b (n + 10) → Bt b H H' → Q (.str (numS ds)) H'
def sp_within (K : PySem.W.Frag) : Sp := fun vs H Q _ => ∃ (u q : Addr) (lts : List (List Ft)) (fs : List Ft) (xs : List V), vs = [.ref u, .ref q] ∧ Dt K H (.ref u) (.tuple (lts.map lotD)) ∧ (∀ lot ∈ lts, lot.length ≤ 2) ∧ H q = some (.lst xs) ∧ Dts K H xs (fs.map ftD) ∧ ∀ H', Same H H' → Q (.bl (lts.any fun lot => lot.all fun f => decide (f ∈ fs))) H'
def sp_silent (K : PySem.W.Frag) (C HC : Addr) : Sp := fun vs H Q _ => ∃ (p q : Addr) (h : Hs) (fs : List Ft) (xs : List V), vs = [.ref p, .ref q] ∧ HouseAt K C HC H p h ∧ h.l.length ≤ 10 ∧ H q = some (.lst xs) ∧ Dts K H xs (fs.map ftD) ∧ fs.length ≤ 4 ∧ (∀ f ∈ fs, f.2 ≤ h.l.length) ∧ ∀ H', Same H H' → Q (.bl (sil h.l h.n fs)) H'
def sp_order (K : PySem.W.Frag) : Sp := fun vs H Q _ => ∃ (x : V) (u : Addr) (lot : List Ft), vs = [x, .ref u] ∧ Dt K H (.ref u) (lotD lot) ∧ (∀ f ∈ lot, f.2 ≤ 10) ∧ lot.length ≤ 2 ∧ ∀ H' r, Same H H' → H' r = some (.lst ((lot.map ord).map V.int)) → Q (.ref r) H'
def sp_made (K : PySem.W.Frag) (C HC : Addr) : Sp := fun vs H Q _ => ∃ (x y a b c : V) (o : HOut), vs = [x, y, a, b, c] ∧ HI K H x y a b c o ∧ match o with
  | .bad w => w ≠ "" ∧ ∀ H' u, Same H H' → H' u = some (.tup [.str w, .non]) → Q (.ref u) H'
  | .ok h => ∀ H' u q, Same H H' → H q = none → HouseAt K C HC H' q h → H' u = some (.tup [.str "", .ref q]) → Q (.ref u) H'
def sp_kept_out (K : PySem.W.Frag) (C HC : Addr) : Sp := fun vs H Q _ => ∃ (p : Addr) (h : Hs), vs = [.ref p] ∧ HouseAt K C HC H p h ∧ HsOk h ∧ ∀ H', Same H H' → Q (.bl true) H'
/-- a guarded ring: groups of spare seekers, an opener between two -/
def grpS (n s : Nat) : List Str := (List.range ((n + s - 1) / s)).map fun j => rgS (List.replicate (min s (n - j * s)) true)
def glS (n k : Nat) : List Bool := List.intercalate [false] ((List.range ((n + (n - k) - 1) / (n - k))).map fun j => List.replicate (min (n - k) (n - j * (n - k))) true)
def glV (n k : Nat) : V := if n = k then .non else if (glS n k).length ≤ 10 then .str (rgS (glS n k)) else .non
def sp_guarded_ring (K : PySem.W.Frag) (_ _ CH : Addr) : Sp := fun vs H Q E => ∃ x y : V, vs = [x, y] ∧
  ((∃ o, Thing K H x o ∧ within 1 10 o = false ∧ Er CH "what" E H (.str "seekers")) ∨
   (∃ (n : Nat) (o : Option Int), x = .int (n : Nat) ∧ 1 ≤ n ∧ n ≤ 10 ∧ Thing K H y o ∧ within 1 (n : Nat) o = false ∧ Er CH "what" E H (.str "need")) ∨
   (∃ n k : Nat, x = .int (n : Nat) ∧ y = .int (k : Nat) ∧ 1 ≤ k ∧ k ≤ n ∧ n ≤ 10 ∧ ∀ H', Same H H' → Q (glV n k) H'))
def sp_guarded (K : PySem.W.Frag) (_ _ : Addr) : Sp := fun vs H Q _ => ∃ (b : Addr) (n : Nat), vs = [.ref b] ∧ Bg H b n ∧ n ≤ 900000 ∧ ∀ H', Bg H' b (n + 2) → Bt b H H' → Q (.bl true) H'
def sp_lots (K : PySem.W.Frag) : Sp := fun vs H Q _ => ∃ (u : Addr) (l : List Bool) (n : Nat), vs = [.str (rgS l), .int ((n : Nat) : Int), .ref u] ∧ l.length ≤ 10 ∧ 1 ≤ n ∧ n ≤ l.count true ∧ Dt K H (.ref u) (.tuple ((lots l n).map lotD)) ∧ ∀ H', Same H H' → Q (.bl true) H'
def sp_exchanged (K : PySem.W.Frag) (C HC : Addr) : Sp := fun vs H Q _ => ∃ (p : Addr) (h : Hs), vs = [.ref p, .str (rgS h.l), .int h.m, .int h.r, .int ((h.n : Nat) : Int)] ∧ HouseAt K C HC H p h ∧ HsOk h ∧ ∀ H', Same H H' → Q (.bl true) H'
def sp_changed (K : PySem.W.Frag) (C HC : Addr) : Sp := fun vs H Q _ => ∃ (b p : Addr) (k : Nat) (h : Hs), vs = [.ref b, .ref p, .str (rgS h.l), .int h.m, .int h.r, .int ((h.n : Nat) : Int)] ∧ Bg H b k ∧ k ≤ 900000 ∧ HouseAt K C HC H p h ∧ HsOk h ∧ ∀ H', Bg H' b (k + 1) → Bt b H H' → Q (.bl true) H'
def sp_wwrong (K : PySem.W.Frag) (_ _ : Addr) : Sp := fun vs H Q _ => ∃ (b : Addr) (k : Nat) (ds : List Nat) (l : List Bool), vs = [.ref b, .str (numS ds), .str (rgS l), .int ((l.count true : Nat) : Int)] ∧ Bg H b k ∧ k ≤ 900000 ∧ Num ds ∧ Ri l ∧ ∀ H' k', Bg H' b k' → Bt b H H' → Q (.bl true) H'
def sp_law (K : PySem.W.Frag) : Sp := fun vs H Q _ => ∃ (a : Addr) (ns : List Int), vs = [.ref a] ∧ SqL K H a (ns.map V.int) ∧ ns.length ≤ 63 ∧ ∀ H', Q (.bl true) H'
end K51

namespace K51
open PySem L2 Wm TL Dv Rm Lo Gtl
section
variable {P : Program} {w : World} {K : PySem.W.Frag} {mg : Str → Option Value} {base : Heap}
theorem iteN {c : Bool} {A B : Prop} (e : c = false) (h : B) : if c = true then A else B := by
  rw [e]
  exact iteF h
theorem iteY {c : Bool} {A B : Prop} (e : c = true) (h : A) : if c = true then A else B := by
  rw [e]
  exact iteT h
theorem small_len {n : Nat} (h : n ≤ 100000) : n ≤ sizeLine := by
  have := sizeLine_eq
  omega
theorem tyT {H : Hp} {p : Addr} {xs : List V} (h : SqT K H p xs) : TyX K H (.ref p) (.type "tuple") := by
  rcases h with (h | ⟨o, h⟩) | ⟨o, its, n, e, c, _⟩
  · exact .base (.tup h)
  · exact .fTuple h
  · exact .kTuple e c
theorem tyL {H : Hp} {p : Addr} {xs : List V} (h : SqL K H p xs) : TyX K H (.ref p) (.type "list") := by
  rcases h with (h | ⟨o, h⟩) | ⟨o, its, n, e, c, _⟩
  · exact .base (.lst h)
  · exact .base (.frz h)
  · exact .kList e c
theorem within_int {lo hi : Int} {o : Option Int} (h : within lo hi o = true) : ∃ i, o = some i ∧ lo ≤ i ∧ i ≤ hi := by
  cases o with
  | none => cases h
  | some i =>
    have q : (decide (lo ≤ i) && decide (i ≤ hi)) = true := h
    simp at q
    exact ⟨i, rfl, q.1, q.2⟩
theorem ok_is_whole (T : Txt K mg) : FnOk P w K mg base CX0 1 T.a_is_whole T.d_is_whole ["thing"] (sp_is_whole K) := by
  refine T.F_is_whole.ok sc_is_whole (fun vs H Q E h => ?_) (fun cdv A outer s H vs Q E hr h => ?_)
  · obtain ⟨x, o, rfl, _⟩ := h
    rfl
  · obtain ⟨x, o, rfl, hx, k⟩ := h
    refine ⟨_, (pss_one (ps_ret (pe_and (pe_callB call_isi (by rfl) T.z_isinstance (by decide +kernel) (pa_cons (pv 0) (pa_cons (pe_bltn (v := V.ty "int") (by rfl) T.z_int (by decide +kernel) rfl) pa_nil))) (pe_one (pe_not (pe_callB call_isi (by rfl) T.z_isinstance (by decide +kernel) (pa_cons (pv 0) (pa_cons (pe_bltn (v := V.ty "bool") (by rfl) T.z_bool (by decide +kernel) rfl) pa_nil)))))))), ?_⟩
    cases hx with
    | int i =>
      refine ⟨_, rfl, _, _, _, _, true, rfl, .ty "int", .base (.int _), kit_ty (by decide +kernel), true, rfl, iteT ?_⟩
      exact ⟨_, rfl, _, _, _, _, false, rfl, .ty "bool", .base (.int _), kit_ty (by decide +kernel), false, rfl, k⟩
    | bl b =>
      refine ⟨_, rfl, _, _, _, _, true, rfl, .ty "int", .base (.bl _), kit_ty (by decide +kernel), true, rfl, iteT ?_⟩
      exact ⟨_, rfl, _, _, _, _, true, rfl, .ty "bool", .base (.bl _), kit_ty (by decide +kernel), true, rfl, k⟩
    | str s => exact ⟨_, rfl, _, _, _, _, false, rfl, .ty "int", .base (.str _), kit_ty (by decide +kernel), false, rfl, iteF k⟩
    | non => exact ⟨_, rfl, _, _, _, _, false, rfl, .ty "int", .base .non, kit_ty (by decide +kernel), false, rfl, iteF k⟩
    | emp q => exact ⟨_, rfl, _, _, _, _, false, rfl, .ty "int", tyT q, kit_ty (by decide +kernel), false, rfl, iteF k⟩
theorem ok_is_whole_within (T : Txt K mg) : FnOk P w K mg base CX0 2 T.a_is_whole_within T.d_is_whole_within ["thing", "low", "high"] (sp_is_whole_within K) := by
  refine T.F_is_whole_within.ok sc_is_whole_within (fun vs H Q E h => ?_) (fun cdv A outer s H vs Q E hr h => ?_)
  · obtain ⟨x, o, lo, hi, rfl, _⟩ := h
    rfl
  · obtain ⟨x, o, lo, hi, rfl, hx, k⟩ := h
    refine ⟨_, (pss_one (ps_ret (pe_and (pe_call (ok_is_whole T) (hr.mono (by decide)) (by rfl) T.g_is_whole T.F_is_whole.kp T.b_is_whole .nil pass0 (pa_cons (pv 0) pa_nil)) (pe_one (pe_chain op_le op_le (pv 1) (pv 0) (pv 2)))))), ?_⟩
    refine ⟨_, rfl, x, o, rfl, hx, ?_⟩
    cases o with
    | none => exact ⟨false, rfl, iteF k⟩
    | some i =>
      cases hx
      refine ⟨true, rfl, iteT ?_⟩
      refine ⟨_, rfl, _, rfl, _, _, rfl, rfl, _, rfl, ?_⟩
      have k : Q (.bl (decide (lo ≤ i) && decide (i ≤ hi))) H := k
      cases e : decide (lo ≤ i) with
      | true =>
        rw [e] at k
        exact iteT ⟨_, rfl, _, _, rfl, rfl, k⟩
      | false =>
        rw [e] at k
        exact iteF k
def sgns (t : Str) : List Bool := (tl t).map fun c => decide (c = 115) || decide (c = 111)
theorem sgns_all {t : Str} : (sgns t).all id = true ↔ ∀ c ∈ t.cps.toList, c = 115 ∨ c = 111 := by
  unfold sgns
  rw [List.all_map, List.all_eq_true]
  constructor
  · intro h c m
    have := h c m
    simpa using this
  · intro h c m
    have := h c m
    simpa using this
theorem in_sgns (c : Nat) : inV (.str ⟨#[c]⟩) [V.str "s", V.str "o"] = (decide (c = 115) || decide (c = 111)) := by
  have e : inV (.str ⟨#[c]⟩) [V.str "s", V.str "o"] = ((("s" : Str) == ⟨#[c]⟩) || ((("o" : Str) == ⟨#[c]⟩) || false)) := rfl
  rw [e, Bool.or_false]
  congr 1
  · by_cases h : c = 115
    · subst h
      decide +kernel
    · rw [decide_eq_false h]
      refine beq_eq_false_iff_ne.mpr fun z => h ?_
      have : ("s" : Str).cps = #[c] := congrArg Str.cps z
      have : (#[115] : Array Nat) = #[c] := this
      injection this with this
      injection this with this
      exact this.symm
  · by_cases h : c = 111
    · subst h
      decide +kernel
    · rw [decide_eq_false h]
      refine beq_eq_false_iff_ne.mpr fun z => h ?_
      have : (#[111] : Array Nat) = #[c] := congrArg Str.cps z
      injection this with this
      injection this with this
      exact this.symm
theorem cps_at {t : Str} {i c : Nat} (h : t.cps[i]? = some c) : (tl t)[i]? = some c := by
  rw [← h]
  exact Array.getElem?_toList ..
theorem tk_map {α β : Type} {l : List α} {i : Nat} {x : α} (f : α → β) (h : l[i]? = some x) : ((l.take i).map f) ++ [f x] = (l.take (i + 1)).map f := by
  rw [List.take_add_one, h, List.map_append]
  rfl
theorem ok_is_ring_text (T : Txt K mg) : FnOk P w K mg base CX0 1 T.a_is_ring_text T.d_is_ring_text ["thing"] (sp_is_ring_text K) := by
  refine T.F_is_ring_text.ok sc_is_ring_text (fun vs H Q E h => ?_) (fun cdv A outer s H vs Q E hr h => ?_)
  · obtain ⟨x, rfl, _⟩ := h
    rfl
  · obtain ⟨x, rfl, h⟩ := h
    refine ⟨_, (pss_cons (ps_if (PW.pt (pw_or (pt_not (pt_val (pe_callB call_isi (by rfl) T.z_isinstance (by decide +kernel) (pa_cons (pv 0) (pa_cons (pe_bltn (v := V.ty "str") (by rfl) T.z_str (by decide +kernel) rfl) pa_nil))))) (pw_or1 (pt_cmpR op_gt (pe_callB call_len_str (by rfl) T.z_len PySem.boot_len (pa_cons (pv 0) pa_nil)) (pe_glob (v := V.int 10) rfl T.c_MOST_SIGNS ⟨_, rfl⟩) (nomark _)))))
        (pss_one (ps_ret pe_bl))
        pss_nil)
      (pss_one (ps_ret (pe_and (pe_cmpR op_in_sign (pe_glob (v := V.str "s") rfl T.c_SEEKER ⟨_, rfl⟩) (pv 0) rfl) (pe_one (pe_callB (cr_all rfl) (by rfl) T.z_all (by decide +kernel) (pa_cons (pe_lc (own := [("sign", 1)]) (g := gName 1) (tt := tYes) rfl sc_is_ring_text.nd (pi_str (pv 0)) (blkOk_by (own := [("sign", 1)]) (N := nm_is_ring_text) (sc := (defScope s_is_ring_text)) (by decide +kernel)) (fun _ _ _ _ _ => pg_name (i := 1) sc_is_ring_text.nd rfl (Or.inl rfl)) (fun _ _ _ _ _ => pts_nil) (fun _ _ _ _ _ => (pe_cmpR (show OpR _ _ (rIn K false) from op_in_seq) (pv 1) (pe_tup (pa_cons (pe_glob (v := V.str "s") rfl T.c_SEEKER ⟨_, rfl⟩) (pa_cons (pe_glob (v := V.str "o") rfl T.c_OPENER ⟨_, rfl⟩) pa_nil))) rfl))) pa_nil))))))), ?_⟩
    rcases h with ⟨t, rfl, hl, k⟩ | ⟨⟨ty, hty, hk⟩, k⟩
    · refine ⟨_, rfl, _, _, _, _, true, rfl, .ty "str", .base (.str _), kit_ty (by decide +kernel), true, rfl, ?_⟩
      refine iteF ?_
      refine ⟨_, rfl, _, rfl, small_len (by omega), _, _, rfl, rfl, _, rfl, ite2 (fun c1 => ?_) (fun c1 => ?_)⟩
      · have c1 := of_decide_eq_true c1
        exact k _ _ (Same.refl _) ⟨fun z => Bool.noConfusion z, fun z => by have := z.1; omega⟩
      · have c1 : ¬ ((t.length : Nat) : Int) > 10 := fun z => c1 (decide_eq_true z)
        refine ⟨_, rfl, 115, t, rfl, rfl, _, rfl, ite2 (fun c2 => ?_) (fun c2 => ?_)⟩
        · have c2 := of_decide_eq_true c2
          have hsz : t.cps.size = (tl t).length := len_tl t
          have hl9 : t.cps.size ≤ 100 := hl
          refine ⟨_, rfl, _, rfl, fun D hD => ?_⟩
          refine lc_it walk_str (fun i H' => Same H H' ∧ H' D = some (.lst (((sgns t).take i).map V.bl)) ∧ True) ⟨same_new hD, upd_same, trivial⟩ (fun _ _ _ _ => trivial) (fun i x H1 H' hi hP hY => ?_) (fun H1 hP => ?_)
          · obtain ⟨sm, hL, _⟩ := hP
            have hi9 : i < t.cps.size := hi
            obtain ⟨rfl, c, hc, rfl⟩ := hY
            have hc2 : (sgns t)[i]? = some (decide (c = 115) || decide (c = 111)) := by
              unfold sgns
              rw [List.getElem?_map, cps_at hc]
              rfl
            refine ⟨rfl, yesT ?_⟩
            refine ⟨_, rfl, by show 2 ≤ sizeLine; decide, fun p hp => ?_⟩
            refine ⟨p, _, rfl, .inr (SqT.of upd_same), rfl, rfl, ?_⟩
            show ∃ _, _
            refine ⟨_, at_old hL hp, by rw [List.length_map, List.length_take]; exact small1000 (Nat.le_trans (Nat.min_le_left _ _) (by omega)), ?_⟩
            refine ⟨same_mut (sm.trans (same_new hp)) hD, ?_, trivial⟩
            rw [upd_same, if_neg (by decide), in_sgns, tk_map V.bl hc2]
          · obtain ⟨sm, hL, _⟩ := hP
            have ell : (sgns t).length = t.cps.size := by unfold sgns; rw [List.length_map, hsz]
            rw [← ell, List.take_length] at hL
            refine ⟨D, sgns t, rfl, SqL.of hL, ?_⟩
            exact k _ _ sm ⟨fun z => ⟨by omega, c2, sgns_all.mp z⟩, fun z => sgns_all.mpr z.2.2⟩
        · refine k _ _ (Same.refl _) ⟨fun z => Bool.noConfusion z, fun z => absurd (decide_eq_true z.2.1) c2⟩
    · refine ⟨_, rfl, _, _, _, _, false, rfl, .ty "str", hty _ (Same.refl _), hk, false, rfl, iteT k⟩
theorem RingAt.k {C : Addr} {H H' : Hp} {p : Addr} {l : List Bool} (h : RingAt K C H p l) (s : Same H H') : RingAt K C H' p l := by
  obtain ⟨dx, fs, y, hp, a, b, c, d, t⟩ := h
  exact ⟨dx, fs, y, s _ _ hp, a, b, c, d, t.k (Kt.same s)⟩
theorem rg_small {l : List Bool} (h : l.length ≤ 100) : (rgS l).length ≤ sizeLine := by
  rw [rgS_len]
  exact small_len (by omega)
theorem rg_ascii (l : List Bool) : (rgS l).cps.all (· < 128) = true := by
  rw [← Array.all_toList, rgS_cps, List.all_map]
  refine List.all_eq_true.mpr fun b _ => ?_
  cases b <;> decide
theorem ok_zone_of (T : Txt K mg) : FnOk P w K mg base CX0 1 T.a_zone_of T.d_zone_of ["self", "stretch"] (sp_zone_of K T.C) := by
  refine T.F_zone_of.ok sc_zone_of (fun vs H Q E h => ?_) (fun cdv A outer s H vs Q E hr h => ?_)
  · obtain ⟨p, k, l, rfl, _⟩ := h
    rfl
  · obtain ⟨p, k, l, rfl, ⟨dx, fs, y, hp, l1, l2, l3, l4, t⟩, hl, kk⟩ := h
    refine ⟨_, (pss_one (ps_ret (pe_bm PySem.F.plainAttrs_str PySem.F.slot_str_count PySem.F.type_str_count mt_count (pe_slice sl_str (pe_fld (pv 0) rfl) po_none (po_some (pv 1))) (pa_cons (pe_glob (v := V.str "o") rfl T.c_OPENER ⟨_, rfl⟩) pa_nil)))), ?_⟩
    refine ⟨_, rfl, p, T.C, dx, fs, _, rfl, hp, T.clC, T.nT, l1, _, rfl, _, rfl, _, rfl, rg_small (by omega), ?_⟩
    rw [rgS_take]
    refine ⟨rfl, _, _, rfl, rfl, ?_⟩
    rw [count_o]
    exact kk
end
end K51

namespace K51
open PySem L2 Wm TL Dv Rm Lo Gtl
section
variable {P : Program} {w : World} {K : PySem.W.Frag} {mg : Str → Option Value} {base : Heap}
theorem dts_nats (z : List Nat) {H : Hp} : Dts K H (nV z) (z.map fun n => PyData.int ((n : Nat) : Int)) := by
  have h := dts_int (K := K) (H := H) (z.map fun n => ((n : Nat) : Int))
  rw [List.map_map, List.map_map] at h
  exact h
theorem rgV_nats (f g : Nat) : rgV ((f : Nat) : Int) (((f : Nat) : Int) + ((g : Nat) : Int)) = nV (List.range' f g) := by
  unfold rgV nV
  rw [show ((((f : Nat) : Int) + ((g : Nat) : Int)) - ((f : Nat) : Int)).toNat = g by omega, List.range'_eq_map_range, List.map_map]
  refine List.map_congr_left fun i _ => ?_
  show V.int ((f : Int) + (i : Nat)) = V.int (((f + i : Nat) : Nat) : Int)
  rw [Int.natCast_add]
theorem zn_at : ∀ (gs : List Nat) (f i : Nat) (g : Nat), gs[i]? = some g → (zn f gs)[i]? = some (List.range' (f + (gs.take i).sum) g)
  | [], f, i, g, h => by cases h
  | x :: gs, f, 0, g, h => by
    have e : x = g := Option.some.inj h
    subst e
    show some (List.range' f x) = _
    simp
  | x :: gs, f, i + 1, g, h => by
    show (zn (f + x) gs)[i]? = _
    rw [zn_at gs (f + x) i g h, List.take_succ_cons, List.sum_cons, Nat.add_assoc]
theorem grp_sum : ∀ l : List Bool, (grp l).sum = l.count true
  | [] => rfl
  | false :: l => by show (0 :: grp l).sum = _; rw [List.sum_cons, grp_sum l]; simp
  | true :: l => by
    obtain ⟨g, r, e⟩ := List.exists_cons_of_ne_nil (grp_ne l)
    have ih := grp_sum l
    rw [grp_t e]
    rw [e] at ih
    simp only [List.sum_cons] at ih ⊢
    rw [List.count_cons]
    simp
    omega
theorem sum_take_le : ∀ (gs : List Nat) (i : Nat), (gs.take i).sum ≤ gs.sum
  | [], i => by simp
  | g :: gs, 0 => by simp
  | g :: gs, i + 1 => by
    have := sum_take_le gs i
    simp only [List.take_succ_cons, List.sum_cons]
    omega
theorem sum_take_succ {gs : List Nat} {i g : Nat} (h : gs[i]? = some g) : (gs.take (i + 1)).sum = (gs.take i).sum + g := by
  rw [List.take_add_one, h, List.sum_append]
  simp
theorem ok_zones_of (T : Txt K mg) : FnOk P w K mg base CX0 1 T.a_zones_of T.d_zones_of ["text"] (sp_zones_of K) := by
  refine T.F_zones_of.ok sc_zones_of (fun vs H Q E h => ?_) (fun cdv A outer s H vs Q E hr h => ?_)
  · obtain ⟨l, rfl, _⟩ := h
    rfl
  · obtain ⟨l, rfl, hl, k⟩ := h
    refine ⟨_, (pss_cons (ps_set (i := 1) sc_zones_of.nd rfl (Or.inl rfl) (pe_lst pa_nil))
      (pss_cons (ps_set (i := 2) sc_zones_of.nd rfl (Or.inl rfl) pe_int)
      (pss_cons (ps_for PassesOwn.never rfl (pi_list (pe_split (pv 0) (pe_glob (v := V.str "o") rfl T.c_OPENER ⟨_, rfl⟩))) (pg_name (i := 3) sc_zones_of.nd rfl (Or.inl rfl))
        (pss_cons (ps_expr (pe_bm PySem.F.plainAttrs_list PySem.F.slot_list_append PySem.F.type_list_append mt_append (pv 1) (pa_cons (pe_tupRg rfl (by rfl) T.z_tuple (prg_2 (by rfl) T.z_range (pv 2) (pe_op op_add (pv 2) (pe_callB call_len_str (by rfl) T.z_len PySem.boot_len (pa_cons (pv 3) pa_nil))))) pa_nil)))
        (pss_one (ps_aug (i := 2) sc_zones_of.nd rfl (Or.inl rfl) (pe_callB call_len_str (by rfl) T.z_len PySem.boot_len (pa_cons (pv 3) pa_nil)) ip_add))))
      (pss_one (ps_ret (pe_callTy call_tuple_of (by rfl) T.z_tuple (by decide +kernel) (pa_cons (pv 1) pa_nil))))))), ?_⟩
    refine ⟨by decide, fun z hz => ?_⟩
    have hsum := grp_sum l
    have hcl : l.count true ≤ l.length := List.count_le_length
    have hgl := grp_len l
    have hcf : l.count false ≤ l.length := List.count_le_length
    refine ⟨_, rfl, ⟨_, rfl⟩, _, _, rfl, rfl, by decide +kernel, by rw [rgS_len]; have := sizeLine_eq; omega, fun u hu => ?_⟩
    rw [split_o]
    refine ⟨u, rfl, ⟨_, SqL.of upd_same⟩, ?_⟩
    have zu : z ≠ u := ne_of_none upd_same hu
    refine for_list (xs := ((grp l).map sS).map V.str) (fun i σ H' => ∃ vp ys, σ = [some (.str (rgS l)), some (.ref z), some (.int ((((grp l).take i).sum : Nat) : Int)), vp] ∧ Same H H' ∧ H' u = some (.lst (((grp l).map sS).map V.str)) ∧ H' z = some (.lst ys) ∧ ys.length = i ∧ Dts K H' ys (((zones l).take i).map natsD))
      ⟨none, [], rfl, (same_new hz).trans (same_new hu), upd_same, by rw [upd_ne zu]; exact upd_same, rfl, by simp; exact .nil⟩ (fun i σ H' _ h => by obtain ⟨_, _, _, _, h, _⟩ := h; exact SqL.of h) (fun i x σ H' hx hP => ?_) (fun σ H' hP => ?_)
    · obtain ⟨vp, ys, rfl, sm, hu', hz', el, hds⟩ := hP
      rw [List.map_map, List.getElem?_map] at hx
      obtain ⟨g, hg, rfl⟩ := Option.map_eq_some_iff.mp hx
      have ts := sum_take_succ hg
      have tl1 := sum_take_le (grp l) (i + 1)
      have li := (List.getElem?_eq_some_iff.mp hg).1
      refine ⟨_, rfl, .inl ⟨rfl, _, SqL.of hz'⟩, ?_⟩
      refine ⟨_, rfl, _, rfl, _, rfl, _, rfl, by rw [sS_len]; exact small_len (by omega), _, _, rfl, rfl, _, _, rfl, rfl, RgOk.of_le (by omega) (by rw [sS_len]; omega) (by omega) (by rw [sS_len]; omega), fun q hq => ?_⟩
      rw [sS_len, rgV_nats]
      have zq : z ≠ q := ne_of_none hz' hq
      refine ⟨_, _, _, rfl, rfl, by rw [upd_ne zq]; exact hz', by rw [el]; exact small1000 (by omega), ?_⟩
      refine ⟨_, rfl, _, rfl, _, rfl, by rw [sS_len]; exact small_len (by omega), _, _, rfl, rfl, ?_⟩
      have zq2 : H' q = none := hq
      have uz : u ≠ z := zu.symm
      have uq : u ≠ q := ne_of_none hu' hq
      refine ⟨some (.str (sS g)), ys ++ [V.ref q], ?_, same_mut (sm.trans (same_new hq)) hz, ?_, upd_same, by rw [List.length_append, el]; rfl, ?_⟩
      · rw [sS_len, ts, Int.natCast_add]
        rfl
      · rw [upd_ne uz, upd_ne uq]
        exact hu'
      · have e2 : (zones l)[i]? = some (List.range' (((grp l).take i).sum) g) := by
          have := zn_at (grp l) 0 i g hg
          rw [Nat.zero_add] at this
          exact this
        rw [List.take_add_one, e2, List.map_append]
        have k5 : Kt K (upd H' q (.tup (nV (List.range' ((grp l).take i).sum g)))) (upd (upd H' q (.tup (nV (List.range' ((grp l).take i).sum g)))) z (.lst (ys ++ [V.ref q]))) := Kt.lst (by rw [upd_ne zq]; exact hz')
        refine ((hds.k (Kt.new hq)).k k5).snoc (Dt.k ?_ k5)
        exact dt_tup upd_same (dts_nats _)
    · obtain ⟨vp, ys, rfl, sm, hu', hz', el, hds⟩ := hP
      refine ⟨_, rfl, z, ys, rfl, .inl ⟨SqL.of hz', fun r hr' => ?_⟩⟩
      refine k _ _ (sm.trans (same_new hr')) (dt_tup upd_same (Dts.k ?_ (Kt.new hr')))
      rw [show (((grp l).map sS).map V.str).length = (zones l).length by rw [List.length_map, List.length_map]; exact (zn_len _ _).symm, List.take_length] at hds
      exact hds
theorem Mk_ring {C : Addr} {H' : Hp} {p dx : Addr} {l : List Bool} {y : V} (e : H' p = some (.ins C dx [("text", .str (rgS l)), ("seekers", .int ((l.count true : Nat) : Int)), ("zones", y)])) (t : Dt K H' y (zonesD l)) : RingAt K C H' p l :=
  ⟨dx, _, y, e, rfl, rfl, rfl, fun m a b c => by
    simp only [List.lookup]
    rw [beq_false_of_ne a, beq_false_of_ne b, beq_false_of_ne c], t⟩
theorem ok_init (T : Txt K mg) : FnOk P w K mg base (L2.CX P w) 3 T.a_init T.d_init ["self", "text"] (sp_init K T.C T.CR) := by
  refine T.F_init.okX sc_init (fun vs H Q E h => ?_) (fun cdv A outer s H vs Q E hr h => ?_)
  · obtain ⟨p, dx, x, rfl, _⟩ := h
    rfl
  · obtain ⟨p, dx, x, rfl, hp, h⟩ := h
    refine ⟨_, (pss_cons (ps_if (pt_not (pt_val (pe_call (ok_is_ring_text T) (hr.mono (by decide)) (by rfl) T.g_is_ring_text T.F_is_ring_text.kp T.b_is_ring_text .nil pass0 (pa_cons (pv 1) pa_nil))))
        (pss_one (ps_raiseLowR rfl T.lowR hr (takes_of rfl rfl rfl rfl) (by exact (pa_cons (pv 1) pa_nil))))
        pss_nil)
      (pss_cons (ps_fld (pv 0) (pv 1) rfl)
      (pss_cons (ps_fld (pv 0) (pe_bm PySem.F.plainAttrs_str PySem.F.slot_str_count PySem.F.type_str_count mt_count (pv 1) (pa_cons (pe_glob (v := V.str "s") rfl T.c_SEEKER ⟨_, rfl⟩) pa_nil)) rfl)
      (pss_one (ps_fld (pv 0) (pe_call (ok_zones_of T) (hr.mono (by decide)) (by rfl) T.g_zones_of T.F_zones_of.kp T.b_zones_of .nil pass0 (pa_cons (pv 1) pa_nil)) rfl))))), ?_⟩
    rcases h with ⟨l, rfl, R, k⟩ | ⟨hn, er⟩
    · have hl := R.len
      refine ⟨_, rfl, _, rfl, .inl ⟨_, rfl, by rw [rgS_len]; omega, fun H1 b s1 hb => ?_⟩⟩
      have e : b = true := hb.mpr ((ring_iff l).mpr R)
      subst e
      refine ⟨true, rfl, iteF ?_⟩
      refine ⟨_, rfl, _, rfl, p, T.C, dx, [], rfl, s1 _ _ hp, T.clC, T.nT, by show 0 < 1000; decide, ?_⟩
      refine ⟨_, rfl, rfl, _, _, rfl, rfl, _, rfl, p, T.C, dx, _, rfl, upd_same, T.clC, T.nS, by show 1 < 1000; decide, ?_⟩
      rw [upd_upd, count_s]
      refine ⟨_, rfl, l, rfl, hl, fun H2 y s2 ty => ?_⟩
      have hp2 := s2 _ _ upd_same
      refine ⟨_, rfl, p, T.C, dx, _, rfl, hp2, T.clC, T.nZ, by show 2 < 1000; decide, ?_⟩
      refine k _ (fun q o nq e => ?_) (Mk_ring (dx := dx) (y := y) upd_same (ty.k (Kt.set hp2 (fun _ z => by cases z) (fun _ _ z => by cases z))))
      rw [upd_ne nq]
      refine s2 _ _ ?_
      rw [upd_ne nq]
      exact s1 _ _ e
    · rcases hn with ⟨t, rfl, hl, no⟩ | no
      · refine ⟨_, rfl, _, rfl, .inl ⟨_, rfl, hl, fun H1 b s1 hb => ?_⟩⟩
        have e : b = false := by
          cases b with
          | false => rfl
          | true => exact absurd (hb.mp rfl) no
        subst e
        exact ⟨false, rfl, iteT ⟨_, rfl, _, rfl, fun d hd => er _ d (s1.trans (same_new hd)) upd_same⟩⟩
      · exact ⟨_, rfl, _, rfl, .inr ⟨no, ⟨false, rfl, iteT ⟨_, rfl, _, rfl, fun d hd => er _ d (same_new hd) upd_same⟩⟩⟩⟩
theorem made {H : Hp} {p dx C : Addr} (hp : H p = none) (hd : H dx = none) (ne : dx ≠ p) : Same H (upd (upd H dx (.own p)) p (.ins C dx [])) :=
  (same_new hd).trans (same_new (by rw [upd_ne (Ne.symm ne)]; exact hp))
theorem made_off {H H' : Hp} {p dx C : Addr} (hp : H p = none) (hd : H dx = none) (ne : dx ≠ p) (off : ∀ q o, q ≠ p → upd (upd H dx (.own p)) p (.ins C dx []) q = some o → H' q = some o) : Same H H' :=
  fun q o e => off q o (ne_of_none e hp) (made hp hd ne q o e)
theorem wdS_t : wdS true = ("cut" : Str) := rfl
theorem allF_succ (n : Nat) : allF (n + 1) = allF n ++ [(true, n), (false, n)] := by
  unfold allF
  rw [List.range_succ, List.flatMap_append]
  simp
theorem allF_len (n : Nat) : (allF n).length = 2 * n := by
  induction n with
  | zero => rfl
  | succ n ih => rw [allF_succ, List.length_append, ih]; simp only [List.length_cons, List.length_nil]; omega
theorem ok_all_faults (T : Txt K mg) : FnOk P w K mg base CX0 1 T.a_all_faults T.d_all_faults ["self"] (sp_all_faults K T.C) := by
  refine T.F_all_faults.ok sc_all_faults (fun vs H Q E h => ?_) (fun cdv A outer s H vs Q E hr h => ?_)
  · obtain ⟨p, l, rfl, _⟩ := h
    rfl
  · obtain ⟨p, l, rfl, hR, hl, k⟩ := h
    obtain ⟨dx, fs, z, hp, l1, l2, l3, l4, t⟩ := id hR
    refine ⟨_, (pss_one (ps_ret (pe_callTy call_tuple_of (by rfl) T.z_tuple (by decide +kernel) (pa_cons (pe_lc2 (own := [("stretch", 1), ("word", 2)]) (g := gName 1) (tt := tYes) (g1 := gName 2) (tt1 := tYes) (vs1 := [2]) rfl sc_all_faults.nd (pi_range1 (by rfl) T.z_range (pa_cons (pe_op op_add (pe_callB call_len_str (by rfl) T.z_len PySem.boot_len (pa_cons (pe_fld (pv 0) rfl) pa_nil)) pe_int) pa_nil)) (blkOk_by (own := [("stretch", 1), ("word", 2)]) (N := nm_all_faults) (sc := (defScope s_all_faults)) (by decide +kernel)) (by decide) (fun _ _ _ _ _ => pg_name (i := 1) sc_all_faults.nd rfl (Or.inl rfl)) (fun _ _ _ _ _ => pts_nil) (fun _ _ _ _ _ => (show PI _ _ _ (iTup K (tTup (tCons (tC (V.str "cut")) (tCons (tC (V.str "short")) tNil)))) from pi_tup (pe_tup (pa_cons (pe_glob (v := V.str "cut") rfl T.c_CUT ⟨_, rfl⟩) (pa_cons (pe_glob (v := V.str "short") rfl T.c_SHORT ⟨_, rfl⟩) pa_nil))))) (fun _ _ _ _ _ => pg_name (i := 2) sc_all_faults.nd rfl (Or.inl rfl)) (fun _ _ _ _ _ => pts_nil) (fun _ _ _ _ _ => (pe_tup (pa_cons (pv 2) (pa_cons (pv 1) pa_nil))))) pa_nil)))), ?_⟩
    refine ⟨_, rfl, p, T.C, dx, fs, _, rfl, hp, T.clC, T.nT, l1, _, rfl, rg_small (by omega), _, _, rfl, rfl, _, rfl, by rw [rgS_len]; omega, by rw [rgS_len]; omega, fun D hD => ?_⟩
    rw [rgS_len, show ((((l.length : Nat) : Int) + 1)).toNat = l.length + 1 by omega]
    refine Et.out_it walk_range (fun i H' => Same H H' ∧ ∃ ys, H' D = some (.lst ys) ∧ Dts K H' ys ((allF i).map ftD)) ⟨same_new hD, [], upd_same, .nil⟩ (fun _ _ _ _ => trivial) (fun i x H2 H' hi hP hY => ?_) (fun H2 hP => ?_)
    · obtain ⟨sm, ys, hy, hys⟩ := hP
      obtain ⟨rfl, rfl⟩ := hY
      have ly := hys.len
      rw [List.length_map, allF_len] at ly
      refine ⟨rfl, yesT ?_⟩
      refine ⟨by decide, fun u hu => ?_⟩
      have uD : D ≠ u := ne_of_none hy hu
      refine ⟨u, rfl, ⟨_, SqT.of upd_same⟩, ?_⟩
      refine Et.in_it walk_tup (fun j H3 => Same H H3 ∧ H3 u = some (.tup [.str "cut", .str "short"]) ∧ ∃ ys, H3 D = some (.lst ys) ∧ Dts K H3 ys ((allF i ++ [(true, i), (false, i)].take j).map ftD)) ⟨sm.trans (same_new hu), upd_same, ys, at_old hy hu, by simpa using hys.k (Kt.new hu)⟩ (fun j H3 _ h => SqT.of h.2.1) (fun j x H3 H4 hj hP hY => ?_) (fun H3 hP => ?_)
      · obtain ⟨sm3, hu3, ys3, hy3, hys3⟩ := hP
        obtain ⟨rfl, hx⟩ := hY
        refine ⟨rfl, yesT ?_⟩
        have hj2 : j < 2 := hj
        have ly3 := hys3.len
        rw [List.length_map, List.length_append, allF_len, List.length_take] at ly3
        refine ⟨_, rfl, _, rfl, by show 2 ≤ sizeLine; decide, fun v hv => ?_⟩
        have vD : D ≠ v := ne_of_none hy3 hv
        have hy4 := at_old (q := v) (u := .tup [x, (fun i => V.int (0 + ((i : Nat) : Int))) i]) hy3 hv
        refine ⟨ys3, hy4, small1000 (by have : i < l.length + 1 := hi; omega), same_mut (sm3.trans (same_new hv)) hD, by rw [upd_ne uD.symm]; exact at_old hu3 hv, _, upd_same, ?_⟩
        have k5 : Kt K (upd H4 v (.tup [x, (fun i => V.int (0 + ((i : Nat) : Int))) i])) (upd (upd H4 v (.tup [x, (fun i => V.int (0 + ((i : Nat) : Int))) i])) D (.lst (ys3 ++ [.ref v]))) := Kt.lst hy4
        obtain ⟨b, hb, ex⟩ : ∃ b, [(true, i), (false, i)][j]? = some (b, i) ∧ x = .str (wdS b) := by
          match j, hj2 with
          | 0, _ => exact ⟨true, rfl, (Option.some.inj hx).symm⟩
          | 1, _ => exact ⟨false, rfl, (Option.some.inj hx).symm⟩
        rw [List.take_add_one, hb, ← List.append_assoc, List.map_append]
        refine ((hys3.k (Kt.new hv)).k k5).snoc (Dt.k (dt_tup upd_same ?_) k5)
        rw [ex]
        show Dts K _ [V.str (wdS b), V.int (0 + (i : Nat))] [PyData.str (wdS b), PyData.int ((i : Nat) : Int)]
        rw [Int.zero_add]
        exact .cons (.str _) (.cons (.int _) .nil)
      · obtain ⟨sm3, hu3, ys3, hy3, hys3⟩ := hP
        rw [show ([V.str "cut", V.str "short"] : List V).length = 2 from rfl] at hys3
        have hys3 : Dts K H3 ys3 ((allF i ++ [(true, i), (false, i)]).map ftD) := hys3
        rw [← allF_succ] at hys3
        exact ⟨sm3, ys3, hy3, hys3⟩
    · obtain ⟨sm, ys, hy, hys⟩ := hP
      refine ⟨D, ys, rfl, .inl ⟨SqL.of hy, fun q9 hq9 => ?_⟩⟩
      exact k _ _ (sm.trans (same_new hq9)) (dt_tup upd_same (hys.k (Kt.new hq9)))
end
end K51

namespace K51
open PySem L2 Wm TL Dv Rm Lo Gtl
section
variable {P : Program} {w : World} {K : PySem.W.Frag} {mg : Str → Option Value} {base : Heap}
theorem wd_in (b : Bool) : inV (.str (wdS b)) [V.str "cut", V.str "short"] = true := by cases b <;> decide +kernel
theorem odd_ways {H : Hp} {n : Nat} {x : V} (o : Odd K H n x) : (∃ ty, TyX K H x (.type ty) ∧ PySem.W.kitOne K (.type ty) (.type "tuple") = some false) ∨ (∃ q xs, x = .ref q ∧ SqT K H q xs ∧ xs.length ≠ 2) ∨
    ∃ q a b, x = .ref q ∧ SqT K H q [a, b] ∧ flatV a = true ∧ (inV a [V.str "cut", V.str "short"] = false ∨ ∃ o, Thing K H b o ∧ within 0 n o = false) := by
  cases o with
  | non => exact .inl ⟨_, .base .non, kit_ty (by decide +kernel)⟩
  | int i => exact .inl ⟨_, .base (.int _), kit_ty (by decide +kernel)⟩
  | lst h => exact .inl ⟨_, tyL h, kit_ty (by decide +kernel)⟩
  | len h e => exact .inr (.inl ⟨_, _, rfl, h, e⟩)
  | fst h a b => exact .inr (.inr ⟨_, _, _, rfl, h, a, .inl b⟩)
  | snd h a t b => exact .inr (.inr ⟨_, _, _, rfl, h, a, .inr ⟨_, t, b⟩⟩)
theorem ok_check_fault (T : Txt K mg) : FnOk P w K mg base (L2.CX P w) 3 T.a_check_fault T.d_check_fault ["self", "thing"] (sp_check_fault K T.C T.CF) := by
  refine T.F_check_fault.okX sc_check_fault (fun vs H Q E h => ?_) (fun cdv A outer s H vs Q E hr h => ?_)
  · obtain ⟨p, x, l, rfl, _⟩ := h
    rfl
  · obtain ⟨p, x, l, rfl, hR, hl, h⟩ := h
    obtain ⟨dx, fs, y, hp, l1, l2, l3, l4, t⟩ := id hR
    refine ⟨_, (pss_cons (ps_if (PW.pt (pw_or (pt_not (pt_val (pe_callB call_isi (by rfl) T.z_isinstance (by decide +kernel) (pa_cons (pv 1) (pa_cons (pe_bltn (v := V.ty "tuple") (by rfl) T.z_tuple (by decide +kernel) rfl) pa_nil))))) (pw_or1 (pt_cmpR op_ne (pe_callB call_len_seq (by rfl) T.z_len PySem.boot_len (pa_cons (pv 1) pa_nil)) pe_int (nomark _)))))
        (pss_one (ps_raiseLowF rfl T.lowF hr (takes_of rfl rfl rfl rfl) (by exact (pa_cons (pv 1) pa_nil))))
        pss_nil)
      (pss_one (ps_if (PW.pt (pw_or (pt_cmpR op_notIn_seq (pe_ix ix_tup (pv 1) pe_int (fun _ _ => rfl)) (pe_tup (pa_cons (pe_glob (v := V.str "cut") rfl T.c_CUT ⟨_, rfl⟩) (pa_cons (pe_glob (v := V.str "short") rfl T.c_SHORT ⟨_, rfl⟩) pa_nil))) rfl) (pw_or1 (pt_not (pt_val (pe_call (ok_is_whole_within T) (hr.mono (by decide)) (by rfl) T.g_is_whole_within T.F_is_whole_within.kp T.b_is_whole_within .nil pass0 (pa_cons (pe_ix ix_tup (pv 1) pe_int (fun _ _ => rfl)) (pa_cons pe_int (pa_cons (pe_callB call_len_str (by rfl) T.z_len PySem.boot_len (pa_cons (pe_fld (pv 0) rfl) pa_nil)) pa_nil)))))))))
        (pss_one (ps_raiseLowF rfl T.lowF hr (takes_of rfl rfl rfl rfl) (by exact (pa_cons (pv 1) pa_nil))))
        pss_nil))), ?_⟩
    rcases h with ⟨f, hd, hf, k⟩ | ⟨o, er⟩
    · obtain ⟨q, xs, rfl, hS, hds⟩ := hd.inv
      cases hds with
      | cons a r => cases r with
        | cons b r =>
          cases r
          rw [a.str_inv, b.int_inv] at hS
          refine ⟨_, rfl, _, _, _, _, true, rfl, .ty "tuple", tyT hS, kit_ty (by decide +kernel), true, rfl, iteF ?_⟩
          refine ⟨_, rfl, q, _, rfl, .inr hS, rfl, _, rfl, iteF ?_⟩
          refine ⟨_, rfl, q, _, _, _, rfl, rfl, hS, atI_nat (j := 0) rfl, by decide, fun u hu => ?_⟩
          have s1 : Same H (upd H u (.tup [.str "cut", .str "short"])) := same_new hu
          refine ⟨u, _, rfl, .inr (SqT.of upd_same), rfl, rfl, _, rfl, ?_⟩
          rw [if_pos rfl, wd_in]
          refine iteF ?_
          refine ⟨_, rfl, q, _, _, _, rfl, rfl, sameT s1 hS, atI_nat (j := 1) rfl, _, rfl, p, T.C, dx, fs, _, rfl, s1 _ _ hp, T.clC, T.nT, l1, _, rfl, rg_small (by omega), ?_⟩
          refine ⟨_, _, _, _, rfl, .int _, ?_⟩
          have e : within 0 (((rgS l).length : Nat) : Int) (some ((f.2 : Nat) : Int)) = true := by
            rw [rgS_len]
            show (decide ((0 : Int) ≤ ((f.2 : Nat) : Int)) && decide (((f.2 : Nat) : Int) ≤ ((l.length : Nat) : Int))) = true
            rw [decide_eq_true (by omega), decide_eq_true (by omega)]
            rfl
          rw [e]
          refine ⟨true, rfl, iteF ?_⟩
          exact k _ s1
    · rcases odd_ways o with ⟨ty, hty, hk⟩ | ⟨q, xs, rfl, hS, e⟩ | ⟨q, a, b, rfl, hS, fa, hw⟩
      · exact ⟨_, rfl, _, _, _, _, false, rfl, .ty "tuple", hty, hk, false, rfl, iteT ⟨_, rfl, _, rfl, fun d hd => er _ d (same_new hd) upd_same⟩⟩
      · refine ⟨_, rfl, _, _, _, _, true, rfl, .ty "tuple", tyT hS, kit_ty (by decide +kernel), true, rfl, iteF ?_⟩
        exact ⟨_, rfl, q, _, rfl, .inr hS, rfl, _, rfl, iteY (by rw [decide_eq_false (show ¬ V.int ((xs.length : Nat) : Int) = V.int 2 from fun z => e (by have := V.int.inj z; omega))]; rfl) ⟨_, rfl, _, rfl, fun d hd => er _ d (same_new hd) upd_same⟩⟩
      · refine ⟨_, rfl, _, _, _, _, true, rfl, .ty "tuple", tyT hS, kit_ty (by decide +kernel), true, rfl, iteF ?_⟩
        refine ⟨_, rfl, q, _, rfl, .inr hS, rfl, _, rfl, iteF ?_⟩
        refine ⟨_, rfl, q, _, _, _, rfl, rfl, hS, atI_nat (j := 0) rfl, by decide, fun u hu => ?_⟩
        have s1 : Same H (upd H u (.tup [.str "cut", .str "short"])) := same_new hu
        refine ⟨u, _, rfl, .inr (SqT.of upd_same), fa, rfl, _, rfl, ?_⟩
        rw [if_pos rfl]
        cases e : inV a [V.str "cut", V.str "short"] with
        | false => exact iteT ⟨_, rfl, _, rfl, fun d hd => er _ d (s1.trans (same_new hd)) upd_same⟩
        | true =>
          rcases hw with hw | ⟨o, ht, hw⟩
          · rw [e] at hw
            cases hw
          · refine iteF ⟨_, rfl, q, _, _, _, rfl, rfl, sameT s1 hS, atI_nat (j := 1) rfl, _, rfl, p, T.C, dx, fs, _, rfl, s1 _ _ hp, T.clC, T.nT, l1, _, rfl, rg_small (by omega), b, o, _, _, rfl, ht.k s1, ?_⟩
            rw [rgS_len, hw]
            exact ⟨false, rfl, iteT ⟨_, rfl, _, rfl, fun d hd => er _ d (s1.trans (same_new hd)) upd_same⟩⟩
theorem no_meth (m : Str) (a : decide (m = "text") = false) (b : decide (m = "seekers") = false) (c : decide (m = "zones") = false) {fs : List (Str × V)} (l4 : ∀ m : Str, m ≠ "text" → m ≠ "seekers" → m ≠ "zones" → fs.lookup m = none) : fs.lookup m = none :=
  l4 m (of_decide_eq_false a) (of_decide_eq_false b) (of_decide_eq_false c)
theorem ok_check_faults (T : Txt K mg) : FnOk P w K mg base (L2.CX P w) 4 T.a_check_faults T.d_check_faults ["self", "faults"] (sp_check_faults K T.C T.CF) := by
  refine T.F_check_faults.okX sc_check_faults (fun vs H Q E h => ?_) (fun cdv A outer s H vs Q E hr h => ?_)
  · obtain ⟨p, q, l, rfl, _⟩ := h
    rfl
  · obtain ⟨p, q, l, rfl, hR, hl, h⟩ := h
    obtain ⟨dx, fs0, y, hp, l1, l2, l3, l4, t⟩ := id hR
    refine ⟨_, (pss_one (ps_for (passes_of rfl) rfl (Kd.pi_seq (pv 1)) (pg_name (i := 2) sc_check_faults.nd rfl (Or.inl rfl))
        (pss_one (ps_expr (MS.pe_methS (pv 0) T.clC T.m_check_fault (ok_check_fault T) (hr.mono (by decide)) T.b_check_fault (fun σ => passAt (takes_of rfl rfl rfl rfl) σ) (by exact (pa_cons (pv 2) pa_nil))))))), ?_⟩
    rcases h with ⟨fs, ⟨tt, xs, hS, hds⟩, ⟨hf1, hf2⟩, k⟩ | ⟨x, ⟨tt, pr, post, fs, hS, hds, ⟨hf1, hf2⟩, o⟩, er⟩
    · refine ⟨_, rfl, q, xs, tt, rfl, hS, fun J GG w hG => ?_⟩
      refine for_it w (fun i σ H' => ∃ vf, σ = [some (.ref p), some (.ref q), vf] ∧ Same H H') ⟨none, rfl, Same.refl _⟩ (fun i σ H' _ h => by obtain ⟨_, _, sm⟩ := h; exact hG _ (hS.keep sm)) (fun i x σ H1 H2 hi hP hY => ?_) (fun σ H' hP => ?_)
      · obtain ⟨vf, rfl, sm⟩ := hP
        obtain ⟨rfl, hx⟩ := hY
        obtain ⟨d, hd, a⟩ := hds.at hx
        rw [List.getElem?_map] at hd
        obtain ⟨f, hf, rfl⟩ := Option.map_eq_some_iff.mp hd
        refine ⟨_, rfl, p, dx, fs0, rfl, sm _ _ hp, no_meth "check_fault" (by decide +kernel) (by decide +kernel) (by decide +kernel) l4, _, rfl, ?_⟩
        refine ⟨p, x, l, rfl, hR.k sm, hl, .inl ⟨f, a.k (Kt.same sm), hf2 f (List.mem_of_getElem? hf), fun H3 s3 => ?_⟩⟩
        exact ⟨_, rfl, sm.trans s3⟩
      · obtain ⟨vf, rfl, sm⟩ := hP
        exact k _ sm
    · refine ⟨_, rfl, q, _, tt, rfl, hS, fun J GG w hG => ?_⟩
      have el := hds.len
      rw [List.length_map] at el
      refine for_it w (fun i σ H' => ∃ vf, σ = [some (.ref p), some (.ref q), vf] ∧ Same H H' ∧ i ≤ pr.length) ⟨none, rfl, Same.refl _, Nat.zero_le _⟩ (fun i σ H' _ h => by obtain ⟨_, _, sm, _⟩ := h; exact hG _ (hS.keep sm)) (fun i y σ H1 H2 hi hP hY => ?_) (fun σ H' hP => ?_)
      · obtain ⟨vf, rfl, sm, ip⟩ := hP
        obtain ⟨rfl, hx⟩ := hY
        refine ⟨_, rfl, p, dx, fs0, rfl, sm _ _ hp, no_meth "check_fault" (by decide +kernel) (by decide +kernel) (by decide +kernel) l4, _, rfl, ?_⟩
        by_cases c : i < pr.length
        · rw [List.getElem?_append_left c] at hx
          obtain ⟨d, hd, a⟩ := hds.at hx
          rw [List.getElem?_map] at hd
          obtain ⟨f, hf, rfl⟩ := Option.map_eq_some_iff.mp hd
          refine ⟨p, y, l, rfl, hR.k sm, hl, .inl ⟨f, a.k (Kt.same sm), hf2 f (List.mem_of_getElem? hf), fun H3 s3 => ?_⟩⟩
          exact ⟨_, rfl, sm.trans s3, c⟩
        · have e : i = pr.length := by omega
          subst e
          rw [List.getElem?_append_right (Nat.le_refl _), Nat.sub_self] at hx
          have ex : x = y := Option.some.inj hx
          subst ex
          exact ⟨p, x, l, rfl, hR.k sm, hl, .inr ⟨o.k sm, fun H3 dd s3 hd3 => er _ dd (sm.trans s3) hd3⟩⟩
      · obtain ⟨vf, rfl, sm, ip⟩ := hP
        rw [List.length_append, List.length_cons] at ip
        omega
end
end K51

namespace K51
open PySem L2 Wm TL Dv Rm Lo Gtl
section
variable {P : Program} {w : World} {K : PySem.W.Frag} {mg : Str → Option Value} {base : Heap}
theorem fmod_in {x l : Int} (h : 0 < l) : 0 ≤ x % l ∧ x % l < l := ⟨Int.emod_nonneg x (by omega), Int.emod_lt_of_pos x h⟩
theorem y_in {x : Int} {l : Int} (h : 0 < l) (g : l ≤ 2147483648) : 0 ≤ x % l ∧ x % l < 2147483648 := by
  have := (fmod_in (x := x) h).2
  exact ⟨(fmod_in h).1, by omega⟩
theorem ok_open (T : Txt K mg) : FnOk P w K mg base CX0 1 T.a_open T.d_open ["_law_script"] (sp_open K) := by
  refine T.F_open.ok sc_open (fun vs H Q E h => ?_) (fun cdv A outer s H vs Q E hr h => ?_)
  · obtain ⟨a, ns, rfl, _⟩ := h
    rfl
  · obtain ⟨a, ns, rfl, hS, hlen, k⟩ := h
    refine ⟨_, (pss_one (ps_ret (pe_lst (pa_cons (pe_callTy call_list_of (by rfl) T.z_list (by decide +kernel) (pa_cons (pv 0) pa_nil)) (pa_cons pe_int (pa_cons pe_int (pa_cons pe_int (pa_cons pe_int pa_nil)))))))), ?_⟩
    refine ⟨_, rfl, a, _, rfl, .inl hS, fun p hp => ?_⟩
    refine ⟨by show 5 ≤ sizeLine; decide, fun b hb => ?_⟩
    exact k _ b ((same_new hp).trans (same_new hb)) ⟨p, 0, 0, 20011, 0, ns, upd_same, at_old upd_same hb, by decide, by decide, by decide, by decide, by decide, by decide⟩
theorem ok_draw (T : Txt K mg) : FnOk P w K mg base CX0 1 T.a_draw T.d_draw ["_law_state", "_law_many"] (sp_draw K) := by
  refine T.F_draw.ok sc_draw (fun vs H Q E h => ?_) (fun cdv A outer s H vs Q E hr h => ?_)
  · obtain ⟨b, n, lim, rfl, _⟩ := h
    rfl
  · obtain ⟨b, n, lim, rfl, l0, l1, ⟨c, k, x, y, z, ns, hb, hc, k0, x0, y0, y1, z0, zn⟩, hn, kk⟩ := h
    have hcb := bg_ne hb hc
    refine ⟨_, (pss_cons (ps_asg (pe_op op_add (pe_ix ix_list (pv 0) pe_int (fun _ _ => rfl)) pe_int) (pg_sub (pv 0) pe_int set_list))
      (C8.pss_cut (ps_if (PW.pt (pw_and (pt_cmpR op_eq (pe_ix ix_list (pv 0) pe_int (fun _ _ => rfl)) pe_int (nomark _)) (pw_and1 (pt_cmpR op_lt (pe_ix ix_list (pv 0) pe_int (fun _ _ => rfl)) (pe_callB call_len_seq (by rfl) T.z_len PySem.boot_len (pa_cons (pe_ix ix_list (pv 0) pe_int (fun _ _ => rfl)) pa_nil)) (nomark _)))))
        (pss_cons (ps_set (i := 2) sc_draw.nd rfl (Or.inl rfl) (pe_ix ix_list (pe_ix ix_list (pv 0) pe_int (fun _ _ => rfl)) (pe_ix ix_list (pv 0) pe_int (fun _ _ => rfl)) (fun _ _ => rfl)))
        (pss_cons (ps_asg (pe_op op_add (pe_ix ix_list (pv 0) pe_int (fun _ _ => rfl)) pe_int) (pg_sub (pv 0) pe_int set_list))
        (pss_cons (ps_asg (pe_op op_mod (pe_op op_add (pe_op op_add (pe_op op_mul (pe_ix ix_list (pv 0) pe_int (fun _ _ => rfl)) pe_int) (pe_op op_mod (pv 2) pe_int)) (pe_ix ix_list (pv 0) pe_int (fun _ _ => rfl))) pe_int) (pg_sub (pv 0) pe_int set_list))
        (pss_one (ps_if (PW.pt (pw_or (pt_cmpR op_ge (pv 2) (pe_op op_pow pe_int pe_int) (nomark _)) (pw_or1 (pt_cmpR op_le (pv 2) (pe_un un_neg (pe_op op_pow pe_int pe_int)) (nomark _)))))
          (pss_one (ps_asg (pe_callB call_abs (by rfl) T.z_abs (by decide +kernel) (pa_cons (pv 2) pa_nil)) (pg_sub (pv 0) pe_int set_list)))
          pss_nil)))))
        pss_nil)
      (pss_cons (ps_if (pt_cmpR op_gt (pe_ix ix_list (pv 0) pe_int (fun _ _ => rfl)) pe_int (nomark _))
        (pss_cons (ps_set (i := 3) sc_draw.nd rfl (Or.inl rfl) (pe_op op_mod (pe_ix ix_list (pv 0) pe_int (fun _ _ => rfl)) (pv 1)))
        (pss_cons (ps_asg (pe_op op_fdivW (pe_ix ix_list (pv 0) pe_int (fun _ _ => rfl)) (pv 1)) (pg_sub (pv 0) pe_int set_list))
        (pss_one (ps_ret (pv 3)))))
        pss_nil)
      (pss_cons (ps_asg (pe_op op_mod (pe_op op_add (pe_op op_add (pe_op op_mul (pe_ix ix_list (pv 0) pe_int (fun _ _ => rfl)) pe_int) (pe_op op_mul (pe_ix ix_list (pv 0) pe_int (fun _ _ => rfl)) pe_int)) pe_int) pe_int) (pg_sub (pv 0) pe_int set_list))
      (pss_one (ps_ret (pe_op op_mod (pe_op op_fdivW (pe_ix ix_list (pv 0) pe_int (fun _ _ => rfl)) pe_int) (pv 1)))))))), ?_⟩
    refine ⟨_, rfl, b, _, 4, _, rfl, rfl, SqL.of hb, atI_nat (j := 4) rfl, _, _, rfl, rfl, ?_⟩
    refine ⟨_, rfl, b, _, 4, 4, rfl, rfl, hb, rfl, ?_⟩
    have b1 : Bt b H (upd H b (.lst [.ref c, .int k, .int x, .int y, .int (z + 1)])) := Bt.set hb
    have hc1 : upd H b (.lst [.ref c, .int k, .int x, .int y, .int (z + 1)]) c = some (.lst (ns.map V.int)) := by rw [upd_ne hcb]; exact hc
    refine ⟨fun σ H1 => ∃ (k x y : Int) (vc : Option V), σ = [some (.ref b), some (.int lim), vc, none] ∧ 0 ≤ k ∧ 0 ≤ x ∧ 0 ≤ y ∧ y < 2147483648 ∧ Bt b H H1 ∧ H1 b = some (.lst [.ref c, .int k, .int x, .int y, .int (z + 1)]), ?_, ?_⟩
    · refine ⟨_, rfl, b, _, 2, _, rfl, rfl, SqL.of upd_same, atI_nat (j := 2) rfl, rfl, _, rfl, ite2 (fun h1 => ?_) (fun h1 => ?_)⟩
      · refine ⟨_, rfl, b, _, 1, _, rfl, rfl, SqL.of upd_same, atI_nat (j := 1) rfl, _, rfl, b, _, 0, _, rfl, rfl, SqL.of upd_same, atI_nat (j := 0) rfl, c, _, rfl, .inl (SqL.of hc1), _, _, rfl, rfl, _, rfl, ite2 (fun h2 => ?_) (fun h2 => ?_)⟩
        · have h3 := of_decide_eq_true h2
          rw [List.length_map] at h3
          have h4 : k.toNat < ns.length := by omega
          have g : (ns.map V.int)[k.toNat]? = some (.int ns[k.toNat]) := by rw [List.getElem?_map, List.getElem?_eq_getElem h4]; rfl
          refine ⟨_, rfl, b, _, 0, _, rfl, rfl, SqL.of upd_same, atI_nat (j := 0) rfl, _, rfl, b, _, 1, _, rfl, rfl, SqL.of upd_same, atI_nat (j := 1) rfl, c, _, k, _, rfl, rfl, SqL.of hc1, at_of (by omega) g, ?_⟩
          refine ⟨_, rfl, b, _, 1, _, rfl, rfl, SqL.of upd_same, atI_nat (j := 1) rfl, _, _, rfl, rfl, ?_⟩
          refine ⟨_, rfl, b, _, 1, 1, rfl, rfl, upd_same, rfl, ?_⟩
          refine ⟨_, rfl, b, _, 3, _, rfl, rfl, SqL.of upd_same, atI_nat (j := 3) rfl, _, _, rfl, rfl, .inr ⟨by decide, by decide⟩, ?_⟩
          refine ⟨_, rfl, _, _, rfl, rfl, (show (0 : Int) < 1000003 by decide), _, _, rfl, rfl, ?_⟩
          refine ⟨_, rfl, b, _, 4, _, rfl, rfl, SqL.of upd_same, atI_nat (j := 4) rfl, _, _, rfl, rfl, _, _, rfl, rfl, (show (0 : Int) < 2147483647 by decide), ?_⟩
          refine ⟨_, rfl, b, _, 3, 3, rfl, rfl, upd_same, rfl, ?_⟩
          have yy := y_in (x := y * 48271 + ns[k.toNat] % 1000003 + (z + 1)) (l := 2147483647) (by decide) (by decide)
          have b2 := (b1.trans (Bt.set (k' := k + 1) (x' := x) (y' := y) (z' := z + 1) upd_same)).trans (Bt.set (k' := k + 1) (x' := x) (y' := (y * 48271 + ns[k.toNat] % 1000003 + (z + 1)) % 2147483647) (z' := z + 1) upd_same)
          have a0 : (0 : Int) ≤ (if ns[k.toNat] < 0 then -ns[k.toNat] else ns[k.toNat]) := by split <;> omega
          refine ⟨_, rfl, _, _, rfl, rfl, ⟨by decide, by decide, by decide⟩, _, _, rfl, rfl, _, rfl, ite2 (fun h5 => ?_) (fun h5 => ?_)⟩
          · refine ⟨_, rfl, _, rfl, _, rfl, b, _, 2, 2, rfl, rfl, upd_same, rfl, ?_⟩
            exact ⟨k + 1, _, _, _, rfl, by omega, a0, yy.1, yy.2, b2.trans (Bt.set upd_same), upd_same⟩
          · refine ⟨_, rfl, _, _, rfl, rfl, ⟨by decide, by decide, by decide⟩, _, rfl, _, _, rfl, rfl, _, rfl, ite2 (fun h6 => ?_) (fun h6 => ?_)⟩
            · refine ⟨_, rfl, _, rfl, _, rfl, b, _, 2, 2, rfl, rfl, upd_same, rfl, ?_⟩
              exact ⟨k + 1, _, _, _, rfl, by omega, a0, yy.1, yy.2, b2.trans (Bt.set upd_same), upd_same⟩
            · exact ⟨k + 1, _, _, _, rfl, by omega, x0, yy.1, yy.2, b2, upd_same⟩
        · exact ⟨k, x, y, none, rfl, k0, x0, y0, y1, b1, upd_same⟩
      · exact ⟨k, x, y, none, rfl, k0, x0, y0, y1, b1, upd_same⟩
    · rintro σ H1 ⟨k, x, y, vc, rfl, k0, x0, y0, y1, but, hb⟩
      have hc2 : H1 c = some (.lst (ns.map V.int)) := but _ _ hcb hc
      refine ⟨_, rfl, b, _, 2, _, rfl, rfl, SqL.of hb, atI_nat (j := 2) rfl, _, _, rfl, rfl, _, rfl, ite2 (fun h1 => ?_) (fun h1 => ?_)⟩
      · refine ⟨_, rfl, b, _, 2, _, rfl, rfl, SqL.of hb, atI_nat (j := 2) rfl, _, rfl, _, _, rfl, rfl, l0, ?_⟩
        refine ⟨_, rfl, b, _, 2, _, rfl, rfl, SqL.of hb, atI_nat (j := 2) rfl, _, rfl, _, _, rfl, rfl, wide_div l0 (b := 100) (by omega) (by decide) (by decide), ?_⟩
        refine ⟨_, rfl, b, _, 2, 2, rfl, rfl, hb, rfl, ?_⟩
        refine ⟨_, rfl, kk _ _ (fmod_in l0).1 (fmod_in l0).2 ⟨c, k, _, y, z + 1, ns, upd_same, ?_, k0, Int.ediv_nonneg x0 (by omega), y0, y1, by omega, by omega⟩ (but.trans (Bt.set hb))⟩
        rw [upd_ne hcb]
        exact hc2
      · refine ⟨_, rfl, b, _, 3, _, rfl, rfl, SqL.of hb, atI_nat (j := 3) rfl, _, _, rfl, rfl, .inr ⟨by decide, by decide⟩, ?_⟩
        refine ⟨_, rfl, b, _, 4, _, rfl, rfl, SqL.of hb, atI_nat (j := 4) rfl, _, _, rfl, rfl, .inr ⟨by decide, by decide⟩, _, _, rfl, rfl, _, _, rfl, rfl, _, _, rfl, rfl, (show (0 : Int) < 2147483629 by decide), ?_⟩
        refine ⟨_, rfl, b, _, 3, 3, rfl, rfl, hb, rfl, ?_⟩
        have yy := y_in (x := y * 69621 + (z + 1) * 7919 + 17) (l := 2147483629) (by decide) (by decide)
        refine ⟨_, rfl, b, _, 3, _, rfl, rfl, SqL.of upd_same, atI_nat (j := 3) rfl, _, _, rfl, rfl, wide_div (by decide) (b := 100) (by decide) (by decide) (by decide), _, rfl, _, _, rfl, rfl, l0, ?_⟩
        refine kk _ _ (fmod_in l0).1 (fmod_in l0).2 ⟨c, k, x, _, z + 1, ns, upd_same, ?_, k0, x0, yy.1, yy.2, by omega, by omega⟩ (but.trans (Bt.set hb))
        rw [upd_ne hcb]
        exact hc2
end
end K51

namespace K51
open PySem L2 Wm TL Dv Rm Lo Gtl
section
variable {P : Program} {w : World} {K : PySem.W.Frag} {mg : Str → Option Value} {base : Heap}
theorem RingAt.txt {C : Addr} {H : Hp} {p : Addr} {l : List Bool} (h : RingAt K C H p l) : ∃ dx fs, H p = some (.ins C dx fs) ∧ fs.lookup ("text" : Str) = some (.str (rgS l)) ∧ ∀ m : Str, m ≠ "text" → m ≠ "seekers" → m ≠ "zones" → fs.lookup m = none := by
  obtain ⟨dx, fs, z, hp, l1, l2, l3, l4, t⟩ := h
  exact ⟨dx, fs, hp, l1, l4⟩
theorem ft_inv {H : Hp} {x : V} {f : Ft} (h : Dt K H x (ftD f)) : ∃ q, x = .ref q ∧ SqT K H q [.str (wdS f.1), .int ((f.2 : Nat) : Int)] := by
  obtain ⟨q, xs, rfl, hS, hds⟩ := h.inv
  cases hds with
  | cons a r => cases r with
    | cons b r =>
      cases r
      rw [a.str_inv, b.int_inv] at hS
      exact ⟨q, rfl, hS⟩
theorem ft_at {H : Hp} {xs : List V} {fs : List Ft} {i : Nat} {x : V} (h : Dts K H xs (fs.map ftD)) (hx : xs[i]? = some x) : ∃ f, fs[i]? = some f ∧ Dt K H x (ftD f) := by
  obtain ⟨d, hd, a⟩ := h.at hx
  rw [List.getElem?_map] at hd
  obtain ⟨f, hf, rfl⟩ := Option.map_eq_some_iff.mp hd
  exact ⟨f, hf, a⟩
theorem wd_short (b : Bool) : decide (V.str (wdS b) = V.str "short") = !b := by cases b <;> decide +kernel
def deadL (l : List Bool) (fs : List Ft) : List Nat := (fs.filter fun f => !f.1).map fun f => zone l f.2
theorem dead_snoc {l : List Bool} {fs : List Ft} {i : Nat} {f : Ft} (h : fs[i]? = some f) : deadL l (fs.take (i + 1)) = deadL l (fs.take i) ++ if f.1 then [] else [zone l f.2] := by
  unfold deadL
  rw [List.take_add_one, h, List.filter_append, List.map_append]
  cases e : f.1 <;> simp [e]
theorem dead_len (l : List Bool) (fs : List Ft) : (deadL l fs).length ≤ fs.length := by
  unfold deadL
  rw [List.length_map]
  exact List.length_filter_le _ _
theorem none_back {H H' : Hp} {D : Addr} (s : Same H H') (h : H' D = none) : H D = none := by
  cases e : H D with
  | none => rfl
  | some o =>
    rw [s _ _ e] at h
    cases h
theorem fts_lay : ∀ fs : List Ft, PyData.canLayAll0 (fs.map ftD) = true
  | [] => rfl
  | f :: fs => by
    have e : (ftD f).canLay0 = true := by cases h : f.1 <;> simp [ftD, wdS, h, PyData.canLay0, PyData.canLayAll0] <;> decide +kernel
    show ((ftD f).canLay0 && PyData.canLayAll0 (fs.map ftD)) = true
    rw [e, fts_lay fs]
    rfl
theorem eqv_ft (f : Ft) (k : Nat) : PyData.eqv (ftD f) (.tuple [.str "cut", .int (0 + ((k : Nat) : Int))]) = (f.1 && decide (f.2 = k)) := by
  cases h : f.1 with
  | false =>
    have e : (("short" : Str) == "cut") = false := by decide +kernel
    simp [ftD, wdS, h, PyData.eqv, PyData.eqvAll, e]
  | true =>
    by_cases c : f.2 = k
    · simp [ftD, wdS, h, PyData.eqv, PyData.eqvAll, c]
    · have c2 : ¬ ((f.2 : Nat) : Int) = ((k : Nat) : Int) := by omega
      simp [ftD, wdS, h, PyData.eqv, PyData.eqvAll, c, c2]
theorem inV_nV (a : Nat) (z : List Nat) : inV (.int ((a : Nat) : Int)) (nV z) = decide (a ∈ z) := by
  induction z with
  | nil => rfl
  | cons x z ih =>
    have e : inV (.int ((a : Nat) : Int)) (nV (x :: z)) = (decide (((x : Nat) : Int) = ((a : Nat) : Int)) || inV (.int ((a : Nat) : Int)) (nV z)) := by
      show (eqV (V.int ((x : Nat) : Int)) (.int ((a : Nat) : Int)) || _) = _
      rfl
    rw [e, ih]
    by_cases c : x = a
    · subst c
      simp
    · rw [decide_eq_false (show ¬ ((x : Nat) : Int) = ((a : Nat) : Int) by omega)]
      simp [Ne.symm c]
theorem closed_eq (l : List Bool) (fs : List Ft) (k : Nat) : (!opn l fs k) = ((fs.any fun f => f.1 && decide (f.2 = k)) || decide (zone l k ∈ deadL l fs)) := by
  induction fs with
  | nil => simp [opn, deadL]
  | cons f fs ih =>
    unfold opn at ih ⊢
    rw [List.all_cons, List.any_cons, Bool.not_and, ih]
    unfold deadL
    cases e : f.1 with
    | true =>
      rw [List.filter_cons_of_neg (by simp [e])]
      simp [Bool.or_assoc]
    | false =>
      simp only [e, Bool.false_eq_true, if_false, Bool.not_not, Bool.false_and, Bool.false_or]
      rw [List.filter_cons_of_pos (by simp [e]), List.map_cons]
      by_cases c : zone l f.2 = zone l k
      · rw [c]
        simp
      · have c2 : ¬ zone l k = zone l f.2 := fun z => c z.symm
        have c3 : (zone l k == zone l f.2) = false := beq_false_of_ne c2
        simp [c, c3]
theorem cut_lay (i : Int) : (PyData.tuple [.str "cut", .int i]).canLay0 = true := by
  simp [PyData.canLay0, PyData.canLayAll0]
  decide +kernel
theorem flat_nV (z : List Nat) : (nV z).all flatV = true := by
  unfold nV
  rw [List.all_map]
  exact List.all_eq_true.mpr fun _ _ => rfl
theorem ok_closed_stretches (T : Txt K mg) : FnOk P w K mg base CX0 2 T.a_closed_stretches T.d_closed_stretches ["self", "faults"] (sp_closed_stretches K T.C) := by
  refine T.F_closed_stretches.ok sc_closed_stretches (fun vs H Q E h => ?_) (fun cdv A outer s H vs Q E hr h => ?_)
  · obtain ⟨p, q, l, fs, rfl, _⟩ := h
    rfl
  · obtain ⟨p, q, l, fs, rfl, hR, hl, ⟨tt, xs, hS, hds⟩, ⟨f1, f2⟩, k⟩ := h
    obtain ⟨dx, fs0, hp, l1, l4⟩ := hR.txt
    have el := hds.len
    rw [List.length_map] at el
    refine ⟨_, (pss_cons (ps_set (i := 2) sc_closed_stretches.nd rfl (Or.inr rfl) (pe_lc (own := [("word", 3), ("stretch", 4)]) (g := gTup K 2 (gCons (gName 3) (gCons (gName 4) (gNil)))) rfl sc_closed_stretches.nd (Kd.pi_seq (pv 1)) (blkOk_by (own := [("word", 3), ("stretch", 4)]) (N := nm_closed_stretches) (sc := (defScope s_closed_stretches)) (by decide +kernel)) (fun _ _ _ _ _ => (pg_tup rfl (pgs_cons (pg_name (i := 3) sc_closed_stretches.nd rfl (Or.inl rfl)) (pgs_cons (pg_name (i := 4) sc_closed_stretches.nd rfl (Or.inl rfl)) pgs_nil)))) (fun _ _ _ _ _ => (pts_one (pt_cmpR op_eq (pv 3) (pe_glob (v := V.str "short") rfl T.c_SHORT ⟨_, rfl⟩) (nomark _)))) (fun _ _ _ _ _ => (pe_meth (pv 0) T.clC T.m_zone_of (ok_zone_of T) (hr.mono (by decide)) T.b_zone_of .nil pass0 (pa_cons (pv 4) pa_nil)))))
      (pss_cons (ps_set (i := 5) sc_closed_stretches.nd rfl (Or.inl rfl) (pe_callTy Rgv.cr_range1 (by rfl) T.z_range (by decide +kernel) (pa_cons (pe_op op_add (pe_callB call_len_str (by rfl) T.z_len PySem.boot_len (pa_cons (pe_fld (pv 0) rfl) pa_nil)) pe_int) pa_nil)))
      (pss_one (ps_ret (pe_lc (own := [("stretch", 4)]) (g := gName 4) (tt := tYes) rfl sc_closed_stretches.nd (Rgv.pi_rgv (pv 5)) (blkOk_by (own := [("stretch", 4)]) (N := nm_closed_stretches) (sc := (defScope s_closed_stretches)) (by decide +kernel)) (fun _ _ _ _ _ => pg_name (i := 4) sc_closed_stretches.nd rfl (Or.inl rfl)) (fun _ _ _ _ _ => pts_nil) (fun _ _ _ _ _ => (pe_or (pe_cmpR (show OpR _ _ (Ind.rInS K) from Ind.op_inS (Ind.room65 hr)) (pe_tup (pa_cons (pe_glob (v := V.str "cut") rfl T.c_CUT ⟨_, rfl⟩) (pa_cons (pv 4) pa_nil))) (pv 1) rfl) (pe_one (pe_cmpR (show OpR _ _ (rIn K false) from op_in_seq) (pe_meth (pv 0) T.clC T.m_zone_of (ok_zone_of T) (hr.mono (by decide)) T.b_zone_of .nil pass0 (pa_cons (pv 4) pa_nil)) (pv 2) rfl))))))))), ?_⟩
    refine ⟨_, rfl, q, xs, tt, rfl, hS, fun J GG wk hG D hD => ?_⟩
    refine lc_it wk (fun i H' => Same H H' ∧ H' D = some (.lst (nV (deadL l (fs.take i))))) ⟨same_new hD, upd_same⟩ (fun i H' _ h => hG _ (hS.keep h.1)) (fun i x H1 H2 hi hP hY => ?_) (fun H1 hP => ?_)
    · obtain ⟨sm, hL⟩ := hP
      obtain ⟨rfl, hx⟩ := hY
      obtain ⟨f, hf, a⟩ := ft_at hds hx
      obtain ⟨r, rfl, hr1⟩ := ft_inv (a.k (Kt.same sm))
      refine ⟨r, _, rfl, hr1, rfl, _, _, rfl, _, _, rfl, rfl, rfl, ?_⟩
      have ds := dead_snoc (l := l) hf
      have dl := dead_len l (fs.take i)
      rw [List.length_take] at dl
      refine ⟨_, rfl, rfl, _, rfl, ?_⟩
      rw [wd_short]
      cases ef : f.1 with
      | true =>
        refine iteF ⟨sm, ?_⟩
        rw [ds, ef, hL]
        simp
      | false =>
        rw [ef] at ds
        refine iteT ⟨_, rfl, p, dx, fs0, rfl, sm _ _ hp, no_meth "zone_of" (by decide +kernel) (by decide +kernel) (by decide +kernel) l4, _, rfl, ?_⟩
        refine ⟨p, f.2, l, rfl, hR.k sm, hl, _, hL, by unfold nV; rw [List.length_map]; exact small1000 (by omega), same_mut sm hD, ?_⟩
        rw [upd_same, ds]
        unfold nV
        rw [List.map_append]
        rfl
    · obtain ⟨sm, hL⟩ := hP
      rw [el, List.take_length] at hL
      have dl := dead_len l fs
      refine ⟨_, rfl, p, T.C, dx, fs0, _, rfl, sm _ _ hp, T.clC, T.nT, l1, _, rfl, rg_small (by omega), _, _, rfl, rfl, _, rfl, fun r hr1 => ?_⟩
      have s2 := sm.trans (same_new (o := .rng 0 ((((rgS l).length : Nat) : Int) + 1)) hr1)
      refine ⟨_, rfl, r, 0, _, rfl, upd_same, ⟨by decide, by decide, by rw [rgS_len]; omega, by rw [rgS_len]; omega⟩, fun D2 hD2 => ?_⟩
      have hS2 := hS.keep s2
      have hL2 : upd H1 r (.rng 0 ((((rgS l).length : Nat) : Int) + 1)) D = some (.lst (nV (deadL l fs))) := at_old hL hr1
      have e9 : (((((rgS l).length : Nat) : Int) + 1) - 0).toNat = l.length + 1 := by rw [rgS_len]; omega
      rw [e9]
      refine lc_it walk_range (fun i H' => Same (upd H1 r (.rng 0 ((((rgS l).length : Nat) : Int) + 1))) H' ∧ H' D2 = some (.lst (((List.range i).map fun k => V.bl (!opn l fs k))))) ⟨same_new hD2, upd_same⟩ (fun _ _ _ _ => trivial) (fun i x H2 H3 hi hP hY => ?_) (fun H2 hP => ?_)
      · obtain ⟨sm2, hL3⟩ := hP
        obtain ⟨rfl, rfl⟩ := hY
        have s3 := s2.trans sm2
        refine ⟨rfl, yesT ?_⟩
        (try dsimp only)
        refine ⟨_, rfl, by show 2 ≤ sizeLine; decide, fun u hu => ?_⟩
        have s4 := s3.trans (same_new (o := .tup [.str "cut", .int (0 + (i : Nat))]) hu)
        refine ⟨_, rfl, (.tuple [.str "cut", .int (0 + (i : Nat))]), fs.map ftD, tt, .tup (SqT.of upd_same) (.cons (.str _) (.cons (.int _) .nil)), Ind.isD (hS.keep s4) (hds.k (Kt.same s4)).toDp, cut_lay _, by simp [PyData.depth, PyData.depthAll], fts_lay fs, ?_⟩
        have a1 : (fs.map ftD).any (fun z => PyData.eqv z (.tuple [.str "cut", .int (0 + (i : Nat))])) = fs.any fun f => f.1 && decide (f.2 = i) := by
          rw [List.any_map]
          congr 1
          funext f
          exact eqv_ft f i
        rw [a1]
        have ce := closed_eq l fs i
        have lr : ∀ b : Bool, b = (!opn l fs i) → ((List.range i).map fun k => V.bl (!opn l fs k)) ++ [V.bl b] = (List.range (i + 1)).map fun k => V.bl (!opn l fs k) := fun b e => by
          rw [e, List.range_succ, List.map_append]
          rfl
        have hi11 : i ≤ 10 := by
          have : i < l.length + 1 := hi
          omega
        have u2 := at_old (q := u) (u := .tup [.str "cut", .int (0 + (i : Nat))]) hL3 hu
        cases ea : fs.any fun f => f.1 && decide (f.2 = i) with
        | true =>
          refine ⟨_, rfl, iteT ⟨_, u2, by rw [List.length_map, List.length_range]; exact small1000 (by omega), same_mut (sm2.trans (same_new hu)) hD2, ?_⟩⟩
          rw [upd_same, lr true (by rw [ce, ea]; rfl)]
        | false =>
          refine ⟨_, rfl, iteF ?_⟩
          refine ⟨_, rfl, p, dx, fs0, rfl, s4 _ _ hp, no_meth "zone_of" (by decide +kernel) (by decide +kernel) (by decide +kernel) l4, _, rfl, ?_⟩
          refine ⟨p, i, l, by rw [Int.zero_add]; rfl, hR.k s4, hl, _, rfl, ?_⟩
          refine ⟨D, _, rfl, .inl (SqL.of (same_new hu _ _ (sm2 _ _ hL2))), rfl, flat_nV _, ?_⟩
          refine ⟨_, u2, by rw [List.length_map, List.length_range]; exact small1000 (by omega), same_mut (sm2.trans (same_new hu)) hD2, ?_⟩
          rw [upd_same, if_neg (by decide), inV_nV, lr _ (by rw [ce, ea, Bool.false_or])]
      · obtain ⟨sm2, hL3⟩ := hP
        exact k _ D2 (s2.trans sm2) (none_back s2 hD2) hL3
end
end K51

namespace K51
open PySem L2 Wm TL Dv Rm Lo Gtl
section
variable {P : Program} {w : World} {K : PySem.W.Frag} {mg : Str → Option Value} {base : Heap}
theorem end_left (b : Bool) : decide (V.str (endS b) = V.str "left") = b := by cases b <;> decide +kernel
theorem nV_len (z : List Nat) : (nV z).length = z.length := by unfold nV; rw [List.length_map]
theorem nV_rg (n : Nat) : rgV 0 ((n : Nat) : Int) = nV (List.range n) := by
  unfold rgV nV
  rw [show (((n : Nat) : Int) - 0).toNat = n by omega]
  refine List.map_congr_left fun i _ => ?_
  rw [Int.zero_add]
theorem nV_rev (z : List Nat) : (nV z).reverse = nV z.reverse := by unfold nV; rw [List.map_reverse]
theorem nV_snoc (z : List Nat) (k : Nat) : nV z ++ [V.int ((k : Nat) : Int)] = nV (z ++ [k]) := by unfold nV; rw [List.map_append]; rfl
theorem sign_at {l : List Bool} {i : Nat} {b : Bool} (h : l[i]? = some b) : atI (rgS l).cps.toList ((i : Nat) : Int) = some (sg b) := by
  refine atI_nat ?_
  rw [rgS_cps, List.getElem?_map, h]
  rfl
theorem is_s (b : Bool) : decide (V.str ⟨#[sg b]⟩ = V.str "s") = b := by cases b <;> decide +kernel
/-- what has been passed when i places of the walk are behind -/
def doneW (b : Bool) (l : List Bool) (i : Nat) : List Nat := if b then List.range (c l i) else ((List.range (l.count true)).drop (c l (l.length - i))).reverse
def plc (b : Bool) (n i : Nat) : Nat := if b then i else n - 1 - i
theorem done_step {b x : Bool} {l : List Bool} {i : Nat} (hi : i < l.length) (h : l[plc b l.length i]? = some x) : doneW b l (i + 1) = doneW b l i ++ if x then [c l (plc b l.length i)] else [] := by
  cases b with
  | true =>
    have h : l[i]? = some x := h
    show List.range (c l (i + 1)) = List.range (c l i) ++ if x then [c l i] else []
    rw [c_succ h]
    cases x with
    | true => exact List.range_succ
    | false => simp
  | false =>
    have h : l[l.length - 1 - i]? = some x := h
    show ((List.range (l.count true)).drop (c l (l.length - (i + 1)))).reverse = ((List.range (l.count true)).drop (c l (l.length - i))).reverse ++ if x then [c l (l.length - 1 - i)] else []
    have e1 : l.length - (i + 1) = l.length - 1 - i := by omega
    have e2 : l.length - i = (l.length - 1 - i) + 1 := by omega
    rw [e1, e2, c_succ h]
    cases x with
    | false => simp
    | true =>
      have cl := c_le l (l.length - 1 - i + 1)
      rw [c_succ h] at cl
      have cl : c l (l.length - 1 - i) + 1 ≤ l.count true := cl
      rw [drop_back (show c l (l.length - 1 - i) < l.count true by omega), List.reverse_cons]
      rfl
theorem done_zero (b : Bool) (l : List Bool) : doneW b l 0 = [] := by
  cases b with
  | true => rfl
  | false =>
    show ((List.range (l.count true)).drop (c l (l.length - 0))).reverse = []
    rw [c_all (by omega), List.drop_of_length_le (by rw [List.length_range]; omega)]
    rfl
theorem done_len (b : Bool) (l : List Bool) (i : Nat) : (doneW b l i).length ≤ l.length := by
  have h1 := c_le l i
  have h2 : l.count true ≤ l.length := List.count_le_length
  cases b with
  | true => show (List.range (c l i)).length ≤ _; rw [List.length_range]; omega
  | false => show ((List.range (l.count true)).drop (c l (l.length - i))).reverse.length ≤ _; rw [List.length_reverse, List.length_drop, List.length_range]; omega
/-- the stretch asked at the i-th place -/
def str' (b : Bool) (n i : Nat) : Nat := if b then i else n - i
theorem walk_stop {b : Bool} {l : List Bool} {fs : List Ft} {i : Nat} (hi : i ≤ l.length) (a : ∀ j, j < i → opn l fs (str' b l.length j) = true) (e : i = l.length ∨ opn l fs (str' b l.length i) = false) : walkL b l fs = doneW b l i := by
  cases b with
  | true => exact left_at hi a e
  | false =>
    show (rightL l (opn l fs)).reverse = ((List.range (l.count true)).drop (c l (l.length - i))).reverse
    have e9 := right_at (l := l) (op := opn l fs) (i := l.length - i) (by omega) (fun k h1 h2 => by
      have := a (l.length - k) (by omega)
      have e2 : str' false l.length (l.length - k) = k := by show l.length - (l.length - k) = k; omega
      rw [e2] at this
      exact this) (by
      rcases e with e | e
      · exact .inl (by omega)
      · exact .inr e)
    rw [e9]
theorem ite_list {σ : L2.St} {c b : Bool} {i : Nat} {v : Addr} {xs : List V} {H1 : Hp} {Q : VK} (e : c = b) (va : σ[i]? = some (some (.ref v))) (hv : H1 v = some (.lst xs)) (q : ∀ a H2, Same H1 H2 → H2 a = some (.lst (if b then xs else xs.reverse)) → (a = v ∨ H1 a = none) → Q (.ref a) H2) :
    if c = true then tVar i σ H1 Q else tRevL K (tVar i) σ H1 Q := by
  subst e
  cases c with
  | true => exact iteT ⟨_, va, q _ _ (Same.refl _) hv (.inl rfl)⟩
  | false => exact iteF ⟨_, va, v, xs, rfl, SqL.of hv, fun p hp => q _ _ (same_new hp) upd_same (.inr hp)⟩
theorem ite_place {σ : L2.St} {c b : Bool} {i n j : Nat} {H1 : Hp} {Q : VK} (e : c = b) (va : σ[i]? = some (some (.int ((plc b n j : Nat) : Int)))) (hj : j < n) (q : Q (.int ((str' b n j : Nat) : Int)) H1) :
    if c = true then tVar i σ H1 Q else tOp (rI0 fun i j => .int (i + j)) (tVar i) (tC (V.int 1)) σ H1 Q := by
  subst e
  cases c with
  | true => exact iteT ⟨_, va, q⟩
  | false =>
    refine iteF ⟨_, va, _, _, rfl, rfl, ?_⟩
    have e : ((plc false n j : Nat) : Int) + 1 = ((str' false n j : Nat) : Int) := by
      show ((n - 1 - j : Nat) : Int) + 1 = ((n - j : Nat) : Int)
      omega
    (try dsimp only)
    rw [e]
    exact q
theorem plc_at {b : Bool} {n i : Nat} {x : V} (h : (if b then nV (List.range n) else (nV (List.range n)).reverse)[i]? = some x) : i < n ∧ x = .int ((plc b n i : Nat) : Int) := by
  have hi : i < n := by
    have := (List.getElem?_eq_some_iff.mp h).1
    cases b <;> simpa [nV] using this
  refine ⟨hi, ?_⟩
  cases b with
  | true =>
    have h : (nV (List.range n))[i]? = some x := h
    unfold nV at h
    rw [List.getElem?_map, List.getElem?_range hi] at h
    exact (Option.some.inj h).symm
  | false =>
    have h : (nV (List.range n)).reverse[i]? = some x := h
    unfold nV at h
    rw [List.getElem?_reverse (by rw [List.length_map, List.length_range]; exact hi), List.length_map, List.length_range, List.getElem?_map, List.getElem?_range (by omega)] at h
    exact (Option.some.inj h).symm
theorem plc_lt {b : Bool} {n i : Nat} (h : i < n) : plc b n i < n := by cases b <;> simp [plc] <;> omega
theorem str_le {b : Bool} {n i : Nat} (h : i < n) : str' b n i ≤ n := by cases b <;> simp [str'] <;> omega
theorem ok_passed_from (T : Txt K mg) : FnOk P w K mg base CX0 3 T.a_passed_from T.d_passed_from ["self", "end", "faults"] (sp_passed_from K T.C) := by
  refine T.F_passed_from.ok sc_passed_from (fun vs H Q E h => ?_) (fun cdv A outer s H vs Q E hr h => ?_)
  · obtain ⟨p, q, b, l, fs, rfl, _⟩ := h
    rfl
  · obtain ⟨p, q, b, l, fs, rfl, hR, hl, hF, fok, k⟩ := h
    obtain ⟨dx, fs0, hp, l1, l4⟩ := hR.txt
    refine ⟨_, (pss_cons (ps_set (i := 3) sc_passed_from.nd rfl (Or.inl rfl) (pe_meth (pv 0) T.clC T.m_closed_stretches (ok_closed_stretches T) (hr.mono (by decide)) T.b_closed_stretches .nil pass0 (pa_cons (pv 2) pa_nil)))
      (pss_cons (ps_set (i := 4) sc_passed_from.nd rfl (Or.inl rfl) (pe_lst pa_nil))
      (pss_cons (ps_set (i := 5) sc_passed_from.nd rfl (Or.inl rfl) (pe_listRg rfl (by rfl) T.z_list (prg_1 (by rfl) T.z_range (pe_callB call_len_str (by rfl) T.z_len PySem.boot_len (pa_cons (pe_fld (pv 0) rfl) pa_nil)))))
      (pss_cons (ps_for PassesOwn.never rfl (pi_list (pe_ifExp (pt_cmpR op_eq (pv 1) (pe_glob (v := V.str "left") rfl T.c_LEFT ⟨_, rfl⟩) (nomark _)) (pv 5) (pe_revL (pv 5)))) (pg_name (i := 6) sc_passed_from.nd rfl (Or.inl rfl))
        (pss_cons (ps_if (pt_val (pe_ix ix_list (pv 3) (pe_ifExp (pt_cmpR op_eq (pv 1) (pe_glob (v := V.str "left") rfl T.c_LEFT ⟨_, rfl⟩) (nomark _)) (pv 6) (pe_op op_add (pv 6) pe_int)) (fun _ _ => rfl)))
          (pss_one (ps_ret (pv 4)))
          pss_nil)
        (pss_one (ps_if (pt_cmpR op_eq (pe_ix ix_str (pe_fld (pv 0) rfl) (pv 6) (fun _ _ => rfl)) (pe_glob (v := V.str "s") rfl T.c_SEEKER ⟨_, rfl⟩) (nomark _))
          (pss_one (ps_expr (pe_bm PySem.F.plainAttrs_list PySem.F.slot_list_append PySem.F.type_list_append mt_append (pv 4) (pa_cons (pe_bm PySem.F.plainAttrs_str PySem.F.slot_str_count PySem.F.type_str_count mt_count (pe_slice sl_str (pe_fld (pv 0) rfl) po_none (po_some (pv 6))) (pa_cons (pe_glob (v := V.str "s") rfl T.c_SEEKER ⟨_, rfl⟩) pa_nil)) pa_nil))))
          pss_nil))))
      (pss_one (ps_ret (pv 4))))))), ?_⟩
    refine ⟨_, rfl, p, dx, fs0, rfl, hp, no_meth "closed_stretches" (by decide +kernel) (by decide +kernel) (by decide +kernel) l4, _, rfl, ?_⟩
    refine ⟨p, q, l, fs, rfl, hR, hl, hF, fok, fun H1 r sm1 hr0 hr1 => ?_⟩
    refine ⟨by decide, fun u hu => ?_⟩
    have s2 := sm1.trans (same_new (o := .lst []) hu)
    refine ⟨_, rfl, p, T.C, dx, fs0, _, rfl, s2 _ _ hp, T.clC, T.nT, l1, _, rfl, rg_small (by omega), _, rfl, RgOk.of_le (by omega) (by rw [rgS_len]; omega) (by omega) (by omega), fun v hv => ?_⟩
    rw [rgS_len, nV_rg]
    have ru : r ≠ u := ne_of_none hr1 hu
    have hrA := at_old (u := .lst []) hr1 hu
    have hrB := at_old (u := .lst (nV (List.range l.length))) hrA hv
    have huv : upd (upd H1 u (.lst [])) v (.lst (nV (List.range l.length))) u = some (.lst []) := at_old upd_same hv
    have s3 := s2.trans (same_new (o := .lst (nV (List.range l.length))) hv)
    have hu0 : H u = none := none_back sm1 hu
    have sz : ∀ b : Bool, (if b then nV (List.range l.length) else (nV (List.range l.length)).reverse).length = l.length := fun b => by cases b <;> simp [nV]
    refine ⟨_, rfl, rfl, _, rfl, ite_list (end_left b) rfl upd_same fun a H4 s4 hS4 av => ?_⟩
    have au : a ≠ u := by
      rcases av with av | av
      · rw [av]
        exact (ne_of_none (upd_same (H := H1) (a := u) (o := .lst [])) hv).symm
      · exact (ne_of_none huv av).symm
    have hr4 := s4 _ _ hrB
    have hu4 := s4 _ _ huv
    refine ⟨a, rfl, ⟨_, SqL.of hS4⟩, ?_⟩
    refine for_list (xs := if b then nV (List.range l.length) else (nV (List.range l.length)).reverse) (fun i σ H' => ∃ vp, σ = [some (.ref p), some (.str (endS b)), some (.ref q), some (.ref r), some (.ref u), some (.ref v), vp] ∧ Same H H' ∧ H' a = some (.lst (if b then nV (List.range l.length) else (nV (List.range l.length)).reverse)) ∧ a ≠ u ∧
        H' r = some (.lst ((List.range (l.length + 1)).map fun k => V.bl (!opn l fs k))) ∧ H' u = some (.lst (nV (doneW b l i))) ∧ ∀ j, j < i → opn l fs (str' b l.length j) = true)
      ⟨none, rfl, s3.trans s4, hS4, au, hr4, by rw [done_zero]; exact hu4, fun j hj => absurd hj (Nat.not_lt_zero _)⟩ (fun i σ H' _ h => by obtain ⟨_, _, _, h, _⟩ := h; exact SqL.of h) (fun i x σ H' hx hP => ?_) (fun σ H' hP => ?_)
    · obtain ⟨vp, rfl, sm, hS', au, hr', hu', op⟩ := hP
      have hi : i < l.length := (plc_at hx).1
      have ex := (plc_at hx).2
      subst ex
      have dl := done_len b l i
      have pl := plc_lt (b := b) hi
      have sl := str_le (b := b) hi
      have cat : ((List.range (l.length + 1)).map fun k => V.bl (!opn l fs k))[str' b l.length i]? = some (V.bl (!opn l fs (str' b l.length i))) := by
        rw [List.getElem?_map, List.getElem?_range (by omega)]
        rfl
      obtain ⟨x, hx2⟩ : ∃ x, l[plc b l.length i]? = some x := ⟨_, List.getElem?_eq_getElem pl⟩
      have ds := done_step hi hx2
      refine ⟨_, rfl, _, rfl, rfl, _, rfl, ite_place (n := l.length) (j := i) (end_left b) rfl hi ?_⟩
      refine ⟨r, _, _, _, rfl, rfl, SqL.of hr', atI_nat cat, ?_⟩
      cases eo : opn l fs (str' b l.length i) with
      | false =>
        refine ⟨_, rfl, iteT ?_⟩
        refine ⟨_, rfl, k _ u sm hu0 ?_⟩
        rw [walk_stop (Nat.le_of_lt hi) op (.inr eo)]
        exact hu'
      | true =>
        refine ⟨_, rfl, iteF ?_⟩
        have op2 : ∀ j, j < i + 1 → opn l fs (str' b l.length j) = true := fun j hj => by
          by_cases c : j = i
          · rw [c]
            exact eo
          · exact op j (by omega)
        refine ⟨_, rfl, p, T.C, dx, fs0, _, rfl, sm _ _ hp, T.clC, T.nT, l1, _, rfl, _, _, _, rfl, rfl, rg_small (by omega), sign_at hx2, rfl, _, rfl, ?_⟩
        rw [is_s]
        cases x with
        | false =>
          refine iteF ⟨_, rfl, sm, hS', au, hr', ?_, op2⟩
          rw [ds]
          simpa using hu'
        | true =>
          refine iteT ⟨_, rfl, .inl ⟨rfl, _, SqL.of hu'⟩, ?_⟩
          refine ⟨_, rfl, p, T.C, dx, fs0, _, rfl, sm _ _ hp, T.clC, T.nT, l1, _, rfl, _, rfl, _, rfl, rg_small (by omega), ?_⟩
          rw [rgS_take]
          refine ⟨rfl, _, _, rfl, rfl, ?_⟩
          rw [count_s]
          refine ⟨_, _, _, rfl, rfl, hu', by rw [nV_len]; exact small1000 (by omega), ?_⟩
          refine ⟨_, rfl, same_mut sm hu0, by rw [upd_ne au]; exact hS', au, ?_, ?_, op2⟩
          · rw [upd_ne ru]
            exact hr'
          · rw [upd_same, ds]
            show some (HO.lst (nV (doneW b l i) ++ [V.int ((c l (plc b l.length i) : Nat) : Int)])) = _
            rw [nV_snoc]
            rfl
    · obtain ⟨vp, rfl, sm, hS', au, hr', hu', op⟩ := hP
      rw [sz] at hu' op
      refine ⟨_, rfl, k _ u sm hu0 ?_⟩
      rw [walk_stop (Nat.le_refl _) op (.inl rfl)]
      exact hu'
end
end K51

namespace K51
open PySem L2 Wm TL Dv Rm Lo Gtl
section
variable {P : Program} {w : World} {K : PySem.W.Frag} {mg : Str → Option Value} {base : Heap}
theorem nV_int (z : List Nat) : nV z = (z.map fun n => ((n : Nat) : Int)).map V.int := by unfold nV; rw [List.map_map]; rfl
theorem up_eq : ∀ {a b : List Int}, a.Pairwise (· < ·) → b.Pairwise (· < ·) → (∀ k, k ∈ a ↔ k ∈ b) → a = b
  | [], [], _, _, _ => rfl
  | [], y :: b, _, _, h => absurd ((h y).mpr List.mem_cons_self) (by simp)
  | x :: a, [], _, _, h => absurd ((h x).mp List.mem_cons_self) (by simp)
  | x :: a, y :: b, ha, hb, h => by
    rw [List.pairwise_cons] at ha hb
    have e : x = y := by
      rcases List.mem_cons.mp ((h x).mp List.mem_cons_self) with z | z
      · exact z
      · rcases List.mem_cons.mp ((h y).mpr List.mem_cons_self) with v | v
        · exact v.symm
        · have := hb.1 x z
          have := ha.1 y v
          omega
    subst e
    congr 1
    refine up_eq ha.2 hb.2 fun k => ⟨fun m => ?_, fun m => ?_⟩
    · rcases List.mem_cons.mp ((h k).mp (List.mem_cons_of_mem _ m)) with z | z
      · have := ha.1 k m
        omega
      · exact z
    · rcases List.mem_cons.mp ((h k).mpr (List.mem_cons_of_mem _ m)) with z | z
      · have := hb.1 k m
        omega
      · exact z
theorem walk_len (b : Bool) (l : List Bool) (fs : List Ft) : (walkL b l fs).length ≤ l.length := by
  have h2 : l.count true ≤ l.length := List.count_le_length
  cases b with
  | true => exact Nat.le_trans (List.length_filter_le _ _) (by rw [List.length_range]; exact h2)
  | false => show (rightL l _).reverse.length ≤ _; rw [List.length_reverse]; exact Nat.le_trans (List.length_filter_le _ _) (by rw [List.length_range]; exact h2)
theorem heard_eq {l : List Bool} {fs : List Ft} {ns : List Int} (up : ns.Pairwise (· < ·)) (m : ∀ k : Int, k ∈ ns ↔ k ∈ (walkL true l fs ++ walkL false l fs).map fun n => ((n : Nat) : Int)) : ns.map V.int = nV (heardL l (opn l fs)) := by
  rw [nV_int]
  congr 1
  refine up_eq up ?_ fun k => (m k).trans ?_
  · rw [List.pairwise_map]
    exact (heard_up l (opn l fs)).imp fun h => by omega
  · rw [List.mem_map, List.mem_map]
    constructor
    · rintro ⟨j, hj, rfl⟩
      refine ⟨j, heard_mem.mpr ?_, rfl⟩
      rcases List.mem_append.mp hj with z | z
      · exact .inl z
      · exact .inr (List.mem_reverse.mp z)
    · rintro ⟨j, hj, rfl⟩
      refine ⟨j, List.mem_append.mpr ?_, rfl⟩
      rcases heard_mem.mp hj with z | z
      · exact .inl z
      · exact .inr (List.mem_reverse.mpr z)
theorem ok_reached (T : Txt K mg) : FnOk P w K mg base (L2.CX P w) 5 T.a_reached T.d_reached ["self", "faults"] (sp_reached K T.C T.CF) := by
  refine T.F_reached.okX sc_reached (fun vs H Q E h => ?_) (fun cdv A outer s H vs Q E hr h => ?_)
  · obtain ⟨p, q, l, rfl, _⟩ := h
    rfl
  · obtain ⟨p, q, l, rfl, hR, hl, h⟩ := h
    obtain ⟨dx, fs0, hp, l1, l4⟩ := hR.txt
    refine ⟨_, (pss_cons (ps_expr (MS.pe_methS (pv 0) T.clC T.m_check_faults (ok_check_faults T) (hr.mono (by decide)) T.b_check_faults (fun σ => passAt (takes_of rfl rfl rfl rfl) σ) (by exact (pa_cons (pv 1) pa_nil))))
      (pss_one (ps_ret (pe_callTy call_tuple_of (by rfl) T.z_tuple (by decide +kernel) (pa_cons (pe_callB (Sa.cr_sortedSetA (by rfl)) (by rfl) T.z_sorted (by decide +kernel) (pa_cons (pe_callTy (Si.call_set (by rfl)) (by rfl) T.z_set (by decide +kernel) (pa_cons (pe_op op_cat (pe_meth (pv 0) T.clC T.m_passed_from (ok_passed_from T) (hr.mono (by decide)) T.b_passed_from .nil pass0 (pa_cons (pe_glob (v := V.str "left") rfl T.c_LEFT ⟨_, rfl⟩) (pa_cons (pv 1) pa_nil))) (pe_meth (pv 0) T.clC T.m_passed_from (ok_passed_from T) (hr.mono (by decide)) T.b_passed_from .nil pass0 (pa_cons (pe_glob (v := V.str "right") rfl T.c_RIGHT ⟨_, rfl⟩) (pa_cons (pv 1) pa_nil)))) pa_nil)) pa_nil)) pa_nil))))), ?_⟩
    rcases h with ⟨fs, hF, fok, k⟩ | ⟨x, hM, er⟩
    · refine ⟨_, rfl, p, dx, fs0, rfl, hp, no_meth "check_faults" (by decide +kernel) (by decide +kernel) (by decide +kernel) l4, _, rfl, ?_⟩
      refine ⟨p, q, l, rfl, hR, hl, .inl ⟨fs, hF, fok, fun H1 s1 => ?_⟩⟩
      refine ⟨_, rfl, p, dx, fs0, rfl, s1 _ _ hp, no_meth "passed_from" (by decide +kernel) (by decide +kernel) (by decide +kernel) l4, _, rfl, ?_⟩
      refine ⟨p, q, true, l, fs, rfl, hR.k s1, hl, hF.k s1, fok, fun H2 r2 s2 n2 h2 => ?_⟩
      have s12 := s1.trans s2
      refine ⟨_, rfl, p, dx, fs0, rfl, s12 _ _ hp, no_meth "passed_from" (by decide +kernel) (by decide +kernel) (by decide +kernel) l4, _, rfl, ?_⟩
      refine ⟨p, q, false, l, fs, rfl, hR.k s12, hl, hF.k s12, fok, fun H3 r3 s3 n3 h3 => ?_⟩
      have w1 := walk_len true l fs
      have w2 := walk_len false l fs
      refine ⟨r2, r3, _, _, rfl, rfl, s3 _ _ h2, h3, by rw [nV_len, nV_len]; exact small_len (by omega), fun u hu => ?_⟩
      have e9 : nV (walkL true l fs) ++ nV (walkL false l fs) = ((walkL true l fs ++ walkL false l fs).map fun n => ((n : Nat) : Int)).map V.int := by rw [← nV_int]; unfold nV; rw [List.map_append]
      rw [e9]
      refine ⟨u, _, rfl, .inl (SqL.of upd_same), by rw [List.length_map, List.length_append]; omega, fun S cc hc hS => ?_⟩
      rw [List.length_map, List.length_append] at hc
      refine ⟨S, _, cc, rfl, upd_same, by omega, fun ns v up mm ln hv => ?_⟩
      refine ⟨v, _, rfl, .inl ⟨SqL.of upd_same, fun r hr1 => ?_⟩⟩
      have sA := (((s12.trans s3).trans (same_new (o := .lst (((walkL true l fs ++ walkL false l fs).map fun n => ((n : Nat) : Int)).map V.int)) hu)).trans (same_new hS)).trans (same_new (o := .lst (ns.map V.int)) hv)
      refine k _ r (sA.trans (same_new hr1)) (none_back sA hr1) ?_
      rw [upd_same, heard_eq up fun k => (mm k).trans decide_eq_true_iff]
    · refine ⟨_, rfl, p, dx, fs0, rfl, hp, no_meth "check_faults" (by decide +kernel) (by decide +kernel) (by decide +kernel) l4, _, rfl, ?_⟩
      exact ⟨p, q, l, rfl, hR, hl, .inr ⟨x, hM, fun H' d s' e => er H' d s' e⟩⟩
theorem end_in (b : Bool) : inV (.str (endS b)) [V.str "left", V.str "right"] = true := by cases b <;> decide +kernel
end
end K51

namespace K51
open PySem L2 Wm TL Dv Rm Lo Gtl
section
variable {P : Program} {w : World} {K : PySem.W.Frag} {mg : Str → Option Value} {base : Heap}
theorem sum_cast : ∀ ds : List Nat, (ds.map fun (d : Nat) => (d : Int)).sum = ((ds.sum : Nat) : Int)
  | [] => rfl
  | d :: ds => by
    rw [List.map_cons, List.sum_cons, List.sum_cons, sum_cast ds]
    omega
def letters (t : Str) : List Bool := (tl t).map fun c => decide (c ∈ ("123456789" : Str).cps.toList)
theorem letters_all {t : Str} : (letters t).all id = true ↔ ∀ c ∈ tl t, c ∈ ("123456789" : Str).cps.toList := by
  unfold letters
  rw [List.all_map, List.all_eq_true]
  constructor
  · intro h c m
    exact of_decide_eq_true (h c m)
  · intro h c m
    exact decide_eq_true (h c m)
theorem ok_is_number (T : Txt K mg) : FnOk P w K mg base CX0 1 T.a_is_number T.d_is_number ["thing"] (sp_is_number K) := by
  refine T.F_is_number.ok sc_is_number (fun vs H Q E h => ?_) (fun cdv A outer s H vs Q E hr h => ?_)
  · obtain ⟨x, rfl, _⟩ := h
    rfl
  · obtain ⟨x, rfl, ⟨t, rfl, hz, k⟩ | ⟨no, k⟩⟩ := h
    case inr =>
      obtain ⟨T0, ty, kt⟩ := no
      refine ⟨_, (pss_cons (ps_if (PW.pt (pw_or (pt_not (pt_val (pe_callB call_isi (by rfl) T.z_isinstance (by decide +kernel) (pa_cons (pv 0) (pa_cons (pe_bltn (v := V.ty "str") (by rfl) T.z_str (by decide +kernel) rfl) pa_nil))))) (pw_or1 (pt_not (pt_chain op_le op_le pe_int (pe_callB call_len_str (by rfl) T.z_len PySem.boot_len (pa_cons (pv 0) pa_nil)) (pe_glob (v := V.int 4) rfl T.c_MOST_DIGITS ⟨_, rfl⟩))))))
        (pss_one (ps_ret pe_bl))
        pss_nil)
      (pss_cons (ps_if (pt_not (pt_val (pe_callB (cr_all rfl) (by rfl) T.z_all (by decide +kernel) (pa_cons (pe_lc (own := [("letter", 1)]) (g := gName 1) (tt := tYes) rfl sc_is_number.nd (pi_str (pv 0)) (blkOk_by (own := [("letter", 1)]) (N := nm_is_number) (sc := (defScope s_is_number)) (by decide +kernel)) (fun _ _ _ _ _ => pg_name (i := 1) sc_is_number.nd rfl (Or.inl rfl)) (fun _ _ _ _ _ => pts_nil) (fun _ _ _ _ _ => (pe_cmpR op_in_sign (pv 1) (pe_glob (v := V.str "123456789") rfl T.c_DIGITS ⟨_, rfl⟩) rfl))) pa_nil))))
        (pss_one (ps_ret pe_bl))
        pss_nil)
      (pss_one (ps_ret (pe_cmpR op_le (pe_callB (cr_sum rfl) (by rfl) T.z_sum (by decide +kernel) (pa_cons (pe_lc (own := [("letter", 1)]) (g := gName 1) (tt := tYes) rfl sc_is_number.nd (pi_str (pv 0)) (blkOk_by (own := [("letter", 1)]) (N := nm_is_number) (sc := (defScope s_is_number)) (by decide +kernel)) (fun _ _ _ _ _ => pg_name (i := 1) sc_is_number.nd rfl (Or.inl rfl)) (fun _ _ _ _ _ => pts_nil) (fun _ _ _ _ _ => (pe_callTy call_int_str (by rfl) T.z_int (by decide +kernel) (pa_cons (pv 1) pa_nil)))) pa_nil)) (pe_glob (v := V.int 24) rfl T.c_GREATEST_SUM ⟨_, rfl⟩) (nomark _)))))), ?_⟩
      exact ⟨_, rfl, _, _, _, _, false, rfl, .ty "str", ty _ (Same.refl _), kt, false, rfl, iteT (iteT k)⟩
    have hz : t.length ≤ 100000 := Nat.le_trans hz (by decide)
    refine ⟨_, (pss_cons (ps_if (PW.pt (pw_or (pt_not (pt_val (pe_callB call_isi (by rfl) T.z_isinstance (by decide +kernel) (pa_cons (pv 0) (pa_cons (pe_bltn (v := V.ty "str") (by rfl) T.z_str (by decide +kernel) rfl) pa_nil))))) (pw_or1 (pt_not (pt_chain op_le op_le pe_int (pe_callB call_len_str (by rfl) T.z_len PySem.boot_len (pa_cons (pv 0) pa_nil)) (pe_glob (v := V.int 4) rfl T.c_MOST_DIGITS ⟨_, rfl⟩))))))
        (pss_one (ps_ret pe_bl))
        pss_nil)
      (pss_cons (ps_if (pt_not (pt_val (pe_callB (cr_all rfl) (by rfl) T.z_all (by decide +kernel) (pa_cons (pe_lc (own := [("letter", 1)]) (g := gName 1) (tt := tYes) rfl sc_is_number.nd (pi_str (pv 0)) (blkOk_by (own := [("letter", 1)]) (N := nm_is_number) (sc := (defScope s_is_number)) (by decide +kernel)) (fun _ _ _ _ _ => pg_name (i := 1) sc_is_number.nd rfl (Or.inl rfl)) (fun _ _ _ _ _ => pts_nil) (fun _ _ _ _ _ => (pe_cmpR op_in_sign (pv 1) (pe_glob (v := V.str "123456789") rfl T.c_DIGITS ⟨_, rfl⟩) rfl))) pa_nil))))
        (pss_one (ps_ret pe_bl))
        pss_nil)
      (pss_one (ps_ret (pe_cmpR op_le (pe_callB (cr_sum rfl) (by rfl) T.z_sum (by decide +kernel) (pa_cons (pe_lc (own := [("letter", 1)]) (g := gName 1) (tt := tYes) rfl sc_is_number.nd (pi_str (pv 0)) (blkOk_by (own := [("letter", 1)]) (N := nm_is_number) (sc := (defScope s_is_number)) (by decide +kernel)) (fun _ _ _ _ _ => pg_name (i := 1) sc_is_number.nd rfl (Or.inl rfl)) (fun _ _ _ _ _ => pts_nil) (fun _ _ _ _ _ => (pe_callTy call_int_str (by rfl) T.z_int (by decide +kernel) (pa_cons (pv 1) pa_nil)))) pa_nil)) (pe_glob (v := V.int 24) rfl T.c_GREATEST_SUM ⟨_, rfl⟩) (nomark _)))))), ?_⟩
    refine ⟨_, rfl, _, _, _, _, true, rfl, .ty "str", .base (.str _), kit_ty (by decide +kernel), true, rfl, iteF ?_⟩
    have hl : t.length = (tl t).length := len_tl t
    have numlen : IsNum t → 1 ≤ t.length ∧ t.length ≤ 4 := fun ⟨ds, N, e⟩ => by
      rw [e, numS_len]
      exact ⟨N.pos, N.len⟩
    refine ⟨_, rfl, _, rfl, small_len hz, _, _, rfl, rfl, _, rfl, ?_⟩
    refine ite2 (fun c1 => ?_) (fun c1 => ?_)
    case refine_2 =>
      have c1' : ¬ (1 : Int) ≤ (t.length : Nat) := fun z => c1 (decide_eq_true z)
      refine ⟨false, rfl, iteT ?_⟩
      exact k _ _ (Same.refl _) ⟨fun z => (by cases z), fun z => absurd (numlen z).1 (by omega)⟩
    have c1' : (1 : Int) ≤ (t.length : Nat) := of_decide_eq_true c1
    refine ⟨_, _, rfl, rfl, _, rfl, ?_⟩
    by_cases c2 : ((t.length : Nat) : Int) ≤ 4
    case neg =>
      rw [decide_eq_false c2]
      refine iteT ?_
      exact k _ _ (Same.refl _) ⟨fun z => (by cases z), fun z => absurd (numlen z).2 (by omega)⟩
    rw [decide_eq_true c2]
    refine iteF ?_
    refine ⟨_, rfl, _, rfl, fun D hD => ?_⟩
    have hsz : t.cps.size = (tl t).length := hl
    refine lc_it walk_str (fun i H' => Same H H' ∧ H' D = some (.lst (((letters t).take i).map V.bl))) ⟨same_new hD, upd_same⟩ (fun _ _ _ _ => trivial) (fun i x H1 H' hi hP hY => ?_) (fun H1 hP => ?_)
    · obtain ⟨sm, hL⟩ := hP
      obtain ⟨rfl, c, hc, rfl⟩ := hY
      have hc2 : (letters t)[i]? = some (decide (c ∈ ("123456789" : Str).cps.toList)) := by
        unfold letters
        rw [List.getElem?_map, cps_at hc]
        rfl
      refine ⟨rfl, yesT ?_⟩
      refine ⟨_, rfl, _, _, rfl, rfl, _, hL, by rw [List.length_map, List.length_take]; exact small1000 (by omega), ?_⟩
      refine ⟨same_mut sm hD, ?_⟩
      rw [upd_same, take_succ_map _ hc2]
    · obtain ⟨sm, hL⟩ := hP
      have ell : (letters t).length = t.cps.size := by unfold letters; rw [List.length_map, hsz]
      rw [← ell, List.take_length] at hL
      refine ⟨D, letters t, rfl, SqL.of hL, _, rfl, ?_⟩
      by_cases c3 : (letters t).all id = true
      case neg =>
        rw [Bool.not_eq_true] at c3
        rw [c3]
        refine iteT ?_
        refine k _ _ sm ⟨fun z => (by cases z), fun ⟨ds, N, e⟩ => ?_⟩
        have q := letters_all.mpr (by rw [e]; exact num_codes N.dig : ∀ c ∈ tl t, c ∈ ("123456789" : Str).cps.toList)
        rw [c3] at q
        cases q
      rw [c3]
      refine iteF ?_
      obtain ⟨ds, dig, et⟩ := dig_text t (letters_all.mp c3)
      subst et
      rw [numS_len] at c1' c2
      refine ⟨_, rfl, _, rfl, fun D2 hD2 => ?_⟩
      refine lc_it walk_str (fun i H' => Same H H' ∧ H' D2 = some (.lst ((ds.take i).map fun (d : Nat) => V.int (d : Int)))) ⟨sm.trans (same_new hD2), upd_same⟩ (fun _ _ _ _ => trivial) (fun i x H2 H' hi hP hY => ?_) (fun H2 hP => ?_)
      · obtain ⟨sm2, hl2⟩ := hP
        obtain ⟨rfl, c, hc, rfl⟩ := hY
        rw [numS_size] at hi
        rw [numS_at ds i hi] at hc
        have hc' := (Option.some.inj hc).symm
        subst hc'
        refine ⟨rfl, yesT ?_⟩
        refine ⟨_, rfl, _, _, rfl, dig_int (dig _ (List.getElem_mem hi)), (by show 1 ≤ 640; decide), _, hl2, by rw [List.length_map, List.length_take]; exact small1000 (by omega), ?_⟩
        refine ⟨same_mut sm2 (sm.free hD2), ?_⟩
        rw [upd_same, take_succ_map _ (List.getElem?_eq_getElem hi)]
      · obtain ⟨sm2, hl2⟩ := hP
        rw [numS_size, List.take_length] at hl2
        refine ⟨D2, ds.map fun (d : Nat) => (d : Int), rfl, SqL.of (by rw [hl2, List.map_map]; rfl), _, _, rfl, rfl, ?_⟩
        rw [sum_cast]
        refine k _ _ sm2 ?_
        rw [isnum_dig]
        constructor
        · intro z
          have z' : ((ds.sum : Nat) : Int) ≤ 24 := of_decide_eq_true z
          exact ⟨by omega, by omega, dig, by omega⟩
        · intro N
          exact decide_eq_true (show ((ds.sum : Nat) : Int) ≤ 24 by have := N.sum; omega)
theorem putF_len (f : Str) (v : V) : ∀ fs : List (Str × V), (putF f v fs).length ≤ fs.length + 1
  | [] => by simp [putF]
  | (g, x) :: r => by
    have ih := putF_len f v r
    unfold putF
    split
    · simp
    · simp only [List.length_cons]
      omega
/-- what stands at another place than p -/
def Off (p : Addr) (H H' : Hp) : Prop := ∀ q o, q ≠ p → H q = some o → H' q = some o
theorem Off.trans {p : Addr} {H H1 H2 : Hp} (a : Off p H H1) (b : Off p H1 H2) : Off p H H2 := fun q o n h => b q o n (a q o n h)
theorem Off.of {p : Addr} {H H' : Hp} (s : Same H H') : Off p H H' := fun q o _ h => s q o h
theorem Off.set {p : Addr} {H : Hp} {o : HO} : Off p H (upd H p o) := fun q u n h => by
  rw [upd_ne n]
  exact h
theorem kt_ins {H : Hp} {p C dx : Addr} {fs : List (Str × V)} {o : HO} (h : H p = some (.ins C dx fs)) : Kt K H (upd H p o) := Kt.set h (fun _ q => by cases q) (fun _ _ q => by cases q)
end
end K51

namespace K51
open PySem L2 Wm TL Dv Rm Lo Gtl
section
variable {P : Program} {w : World} {K : PySem.W.Frag} {mg : Str → Option Value} {base : Heap}
theorem sp_snoc (b : Bool) : ∀ a : List Bool, sp (a ++ [b]) = sp a ++ if b then [a.length] else []
  | [] => by cases b <;> rfl
  | true :: a => by
    show 0 :: (sp (a ++ [b])).map (· + 1) = (0 :: (sp a).map (· + 1)) ++ _
    rw [sp_snoc b a]
    cases b <;> simp
  | false :: a => by
    show (sp (a ++ [b])).map (· + 1) = (sp a).map (· + 1) ++ _
    rw [sp_snoc b a]
    cases b <;> simp
theorem is_o (b : Bool) : decide (V.str ⟨#[sg b]⟩ = V.str "o") = !b := by cases b <;> decide +kernel
theorem rg_size (l : List Bool) : (rgS l).cps.size = l.length := rgS_len l
theorem sg_at {l : List Bool} {i cc : Nat} (h : (rgS l).cps[i]? = some cc) : ∃ b, l[i]? = some b ∧ cc = sg b := by
  have h2 : (l.map sg)[i]? = some cc := cps_at h
  rw [List.getElem?_map] at h2
  obtain ⟨b, e, rfl⟩ := Option.map_eq_some_iff.mp h2
  exact ⟨b, e, rfl⟩
theorem sp_small (l : List Bool) : (sp l).length ≤ l.length := by rw [Rm.sp_len]; exact List.count_le_length
theorem zone_data (f : Ft) (k : Nat) : PyData.eqv (ftD f) (.tuple [.str "cut", .int ((k : Nat) : Int)]) = (f.1 && decide (f.2 = k)) := by
  have e := eqv_ft f k
  rw [Int.zero_add] at e
  exact e
theorem ft_shaped (f : Ft) : SeqAt.shaped (ftD f) = true := by
  have h : Fine 1 (ftD f) := fine_tup (n := 0) fun d m => by
    rcases List.mem_cons.mp m with rfl | m
    · exact fine_str (by cases f.1 <;> decide +kernel)
    · rw [List.mem_singleton.mp m]
      exact fine_int _
  exact h.shaped (by decide)
theorem opn_snoc {l : List Bool} {fs : List Ft} {i k : Nat} {f : Ft} (h : fs[i]? = some f) : opn l (fs.take (i + 1)) k = (opn l (fs.take i) k && if f.1 then !decide (f.2 = k) else !decide (zone l f.2 = zone l k)) := by
  unfold opn
  rw [List.take_add_one, h, List.all_append]
  simp
theorem opn_stop {l : List Bool} {fs : List Ft} {i k : Nat} {f : Ft} (h : fs[i]? = some f) (e : (if f.1 then !decide (f.2 = k) else !decide (zone l f.2 = zone l k)) = false) : opn l fs k = false := by
  unfold opn
  refine Bool.eq_false_iff.mpr fun z => ?_
  have := List.all_eq_true.mp z f (List.mem_of_getElem? h)
  rw [e] at this
  cases this
theorem ok_zone (T : Txt K mg) : FnOk P w K mg base CX0 1 T.a_zone T.d_zone ["_law_text_here", "_law_stretch"] (sp_zone K) := by
  refine T.F_zone.ok sc_zone (fun vs H Q E h => ?_) (fun cdv A outer s H vs Q E hr h => ?_)
  · obtain ⟨k, l, rfl, _⟩ := h
    rfl
  · obtain ⟨k, l, rfl, hl, kk⟩ := h
    refine ⟨_, (pss_one (ps_ret (pe_callB call_len_seq (by rfl) T.z_len PySem.boot_len (pa_cons (pe_lc (own := [("_law_sign", 2)]) (g := gName 2) rfl sc_zone.nd (pi_str (pe_slice sl_str (pv 0) po_none (po_some (pv 1)))) (blkOk_by (own := [("_law_sign", 2)]) (N := nm_zone) (sc := (defScope s_zone)) (by decide +kernel)) (fun _ _ _ _ _ => pg_name (i := 2) sc_zone.nd rfl (Or.inl rfl)) (fun _ _ _ _ _ => (pts_one (pt_cmpR op_eq (pv 2) pe_str (nomark _)))) (fun _ _ _ _ _ => (pv 2))) pa_nil)))), ?_⟩
    refine ⟨_, rfl, _, rfl, _, rfl, _, rfl, rg_small (by omega), ?_⟩
    rw [rgS_take]
    refine ⟨_, rfl, fun D hD => ?_⟩
    refine lc_it walk_str (fun i H' => Same H H' ∧ ∃ ys, H' D = some (.lst ys) ∧ ys.length = ((l.take k).take i).count false) ⟨same_new hD, [], upd_same, rfl⟩ (fun _ _ _ _ => trivial) (fun i x H1 H2 hi hP hY => ?_) (fun H1 hP => ?_)
    · obtain ⟨sm, ys, hy, ly⟩ := hP
      obtain ⟨rfl, cc, hc, rfl⟩ := hY
      obtain ⟨b, hb, rfl⟩ := sg_at hc
      have lc2 : ((l.take k).take i).count false ≤ 10 := Nat.le_trans List.count_le_length (by rw [List.length_take, List.length_take]; omega)
      refine ⟨rfl, _, rfl, rfl, _, rfl, ?_⟩
      rw [is_o]
      cases b with
      | false => exact iteT ⟨_, rfl, ys, hy, small1000 (by omega), same_mut sm hD, _, upd_same, by rw [List.take_add_one, hb, List.count_append, List.length_append, ly]; rfl⟩
      | true => exact iteF ⟨sm, ys, hy, by rw [List.take_add_one, hb, List.count_append, ly]; simp⟩
    · obtain ⟨sm, ys, hy, ly⟩ := hP
      rw [rg_size, List.take_length] at ly
      refine ⟨D, ys, rfl, .inl (SqL.of hy), ?_⟩
      rw [ly]
      exact kk _ sm
theorem ok_spots (T : Txt K mg) : FnOk P w K mg base CX0 1 T.a_spots T.d_spots ["_law_text_here"] (sp_spots K) := by
  refine T.F_spots.ok sc_spots (fun vs H Q E h => ?_) (fun cdv A outer s H vs Q E hr h => ?_)
  · obtain ⟨l, rfl, _⟩ := h
    rfl
  · obtain ⟨l, rfl, hl, kk⟩ := h
    refine ⟨_, (pss_one (ps_ret (pe_lc (own := [("_law_at", 1)]) (g := gName 1) rfl sc_spots.nd (pi_range1 (by rfl) T.z_range (pa_cons (pe_callB call_len_str (by rfl) T.z_len PySem.boot_len (pa_cons (pv 0) pa_nil)) pa_nil)) (blkOk_by (own := [("_law_at", 1)]) (N := nm_spots) (sc := (defScope s_spots)) (by decide +kernel)) (fun _ _ _ _ _ => pg_name (i := 1) sc_spots.nd rfl (Or.inl rfl)) (fun _ _ _ _ _ => (pts_one (pt_cmpR op_eq (pe_ix ix_str (pv 0) (pv 1) (fun _ _ => rfl)) pe_str (nomark _)))) (fun _ _ _ _ _ => (pv 1))))), ?_⟩
    refine ⟨_, rfl, _, rfl, rg_small (by omega), _, rfl, by rw [rgS_len]; omega, by rw [rgS_len]; omega, fun D hD => ?_⟩
    rw [rgS_len, Int.toNat_natCast]
    refine lc_it walk_range (fun i H' => Same H H' ∧ H' D = some (.lst (nV (sp (l.take i))))) ⟨same_new hD, upd_same⟩ (fun _ _ _ _ => trivial) (fun i x H1 H2 hi hP hY => ?_) (fun H1 hP => ?_)
    · obtain ⟨sm, hL⟩ := hP
      obtain ⟨rfl, rfl⟩ := hY
      obtain ⟨b, hb⟩ : ∃ b, l[i]? = some b := ⟨_, List.getElem?_eq_getElem hi⟩
      have e9 : sp (l.take (i + 1)) = sp (l.take i) ++ if b then [i] else [] := by
        rw [List.take_add_one, hb]
        show sp (l.take i ++ [b]) = _
        rw [sp_snoc, List.length_take, Nat.min_eq_left (Nat.le_of_lt hi)]
      have ls := sp_small (l.take i)
      rw [List.length_take] at ls
      refine ⟨rfl, _, rfl, _, rfl, _, _, _, rfl, (show V.int (0 + ((i : Nat) : Int)) = V.int ((i : Nat) : Int) by rw [Int.zero_add]), rg_small (by omega), sign_at hb, rfl, _, rfl, ?_⟩
      (try dsimp only)
      rw [is_s, Int.zero_add]
      cases b with
      | true =>
        refine iteT ⟨_, rfl, _, hL, by rw [nV_len]; exact small1000 (by omega), same_mut sm hD, ?_⟩
        rw [upd_same, e9, nV_snoc]
        rfl
      | false =>
        refine iteF ⟨sm, ?_⟩
        rw [e9, hL]
        simp
    · obtain ⟨sm, hL⟩ := hP
      rw [List.take_length] at hL
      exact kk _ D sm hD hL
theorem ok_open_at (T : Txt K mg) : FnOk P w K mg base CX0 2 T.a_open_at T.d_open_at ["_law_text_here", "_law_faults_here", "_law_stretch"] (sp_open_at K) := by
  refine T.F_open_at.ok sc_open_at (fun vs H Q E h => ?_) (fun cdv A outer s H vs Q E hr h => ?_)
  · obtain ⟨k, q, l, fs, rfl, _⟩ := h
    rfl
  · obtain ⟨k, q, l, fs, rfl, hl, ⟨tt, xs, hS, hds⟩, ⟨f1, f2⟩, kk⟩ := h
    have el := hds.len
    rw [List.length_map] at el
    refine ⟨_, (pss_cons (ps_for PassesOwn.never rfl (Kd.pi_seq (pv 1)) (pg_name (i := 3) sc_open_at.nd rfl (Or.inl rfl))
        (pss_cons (ps_if (pt_cmpR (op_eqD hr.units) (pv 3) (pe_tup (pa_cons pe_str (pa_cons (pv 2) pa_nil))) (nomark _))
          (pss_one (ps_ret pe_bl))
          pss_nil)
        (pss_one (ps_if (PW.pt (pw_and (pt_cmpR op_eq (pe_ix ix_tup (pv 3) pe_int (fun _ _ => rfl)) pe_str (nomark _)) (pw_and1 (pt_cmpR op_eq (pe_call (ok_zone T) (hr.mono (by decide)) (by rfl) T.g_zone T.F_zone.kp T.b_zone .nil pass0 (pa_cons (pv 0) (pa_cons (pe_ix ix_tup (pv 3) pe_int (fun _ _ => rfl)) pa_nil))) (pe_call (ok_zone T) (hr.mono (by decide)) (by rfl) T.g_zone T.F_zone.kp T.b_zone .nil pass0 (pa_cons (pv 0) (pa_cons (pv 2) pa_nil))) (nomark _)))))
          (pss_one (ps_ret pe_bl))
          pss_nil))))
      (pss_one (ps_ret pe_bl))), ?_⟩
    refine ⟨_, rfl, q, xs, tt, rfl, hS, fun J GG wk hG => ?_⟩
    refine for_it wk (fun i σ H' => ∃ vf, σ = [some (.str (rgS l)), some (.ref q), some (.int ((k : Nat) : Int)), vf] ∧ Same H H' ∧ opn l (fs.take i) k = true) ⟨none, rfl, Same.refl _, rfl⟩ (fun i σ H' _ h => by obtain ⟨_, _, sm, _⟩ := h; exact hG _ (hS.keep sm)) (fun i x σ H1 H2 hi hP hY => ?_) (fun σ H' hP => ?_)
    · obtain ⟨vf, rfl, sm, op⟩ := hP
      obtain ⟨rfl, hx⟩ := hY
      obtain ⟨f, hf, a⟩ := ft_at hds hx
      obtain ⟨r, rfl, hr1⟩ := ft_inv (a.k (Kt.same sm))
      refine ⟨_, rfl, _, rfl, by show 2 ≤ sizeLine; decide, fun u hu => ?_⟩
      have s2 := sm.trans (same_new (o := .tup [.str "cut", .int ((k : Nat) : Int)]) hu)
      have os := opn_snoc (l := l) (k := k) hf
      have hr2 := sameT (same_new (o := .tup [.str "cut", .int ((k : Nat) : Int)]) hu) hr1
      refine ⟨ftD f, .tuple [.str "cut", .int ((k : Nat) : Int)], (a.k (Kt.same s2)).toDp, .tup (SqT.of upd_same) (.cons (.str _) (.cons (.int _) .nil)), ft_shaped f, ft_shaped (true, k), _, rfl, ?_⟩
      rw [zone_data]
      cases ef : f.1 with
      | true =>
        rw [ef] at os
        have st := opn_stop (l := l) (k := k) hf
        rw [ef] at st
        by_cases c : f.2 = k
        · rw [decide_eq_true c]
          refine iteT ?_
          have := kk _ s2
          rw [st (by rw [decide_eq_true c]; rfl)] at this
          exact this
        · rw [decide_eq_false c]
          refine iteF ?_
          refine ⟨_, rfl, r, _, _, _, rfl, rfl, hr2, atI_nat (j := 0) rfl, rfl, _, rfl, ?_⟩
          rw [wd_short, ef]
          refine iteF ⟨_, rfl, s2, ?_⟩
          rw [os, op, decide_eq_false c]
          rfl
      | false =>
        rw [ef] at os
        have st := opn_stop (l := l) (k := k) hf
        rw [ef] at st
        refine iteF ?_
        refine ⟨_, rfl, r, _, _, _, rfl, rfl, hr2, atI_nat (j := 0) rfl, rfl, _, rfl, ?_⟩
        rw [wd_short, ef]
        refine iteT ?_
        refine ⟨_, rfl, _, rfl, r, _, _, _, rfl, rfl, hr2, atI_nat (j := 1) rfl, f.2, l, rfl, hl, fun H5 s5 => ?_⟩
        refine ⟨_, rfl, _, rfl, k, l, rfl, hl, fun H6 s6 => ?_⟩
        refine ⟨rfl, _, rfl, ?_⟩
        have e9 : decide (V.int ((zone l f.2 : Nat) : Int) = V.int ((zone l k : Nat) : Int)) = decide (zone l f.2 = zone l k) := by
          by_cases c : zone l f.2 = zone l k
          · rw [c, decide_eq_true rfl, decide_eq_true rfl]
          · rw [decide_eq_false c, decide_eq_false fun z => c (by have := V.int.inj z; omega)]
        rw [e9]
        have s6 := (s2.trans s5).trans s6
        by_cases c : zone l f.2 = zone l k
        · rw [decide_eq_true c]
          refine iteT ?_
          have := kk _ s6
          rw [st (by rw [decide_eq_true c]; rfl)] at this
          exact this
        · rw [decide_eq_false c]
          refine iteF ⟨_, rfl, s6, ?_⟩
          rw [os, op, decide_eq_false c]
          rfl
    · obtain ⟨vf, rfl, sm, op⟩ := hP
      rw [el, List.take_length] at op
      have := kk _ sm
      rw [op] at this
      exact this
theorem ok_passed (T : Txt K mg) : FnOk P w K mg base CX0 3 T.a_passed T.d_passed ["_law_text_here", "_law_faults_here", "_law_stretches"] (sp_passed K) := by
  refine T.F_passed.ok sc_passed (fun vs H Q E h => ?_) (fun cdv A outer s H vs Q E hr h => ?_)
  · obtain ⟨q, r, l, fs, ks, rfl, _⟩ := h
    rfl
  · obtain ⟨q, r, l, fs, ks, rfl, hl, hF, fok, hr0, hk, kk⟩ := h
    refine ⟨_, (pss_one (ps_ret (pe_callB (cr_all rfl) (by rfl) T.z_all (by decide +kernel) (pa_cons (pe_lc (own := [("_law_k", 3)]) (g := gName 3) (tt := tYes) rfl sc_passed.nd (pi_list (pv 2)) (blkOk_by (own := [("_law_k", 3)]) (N := nm_passed) (sc := (defScope s_passed)) (by decide +kernel)) (fun _ _ _ _ _ => pg_name (i := 3) sc_passed.nd rfl (Or.inl rfl)) (fun _ _ _ _ _ => pts_nil) (fun _ _ _ _ _ => (pe_call (ok_open_at T) (hr.mono (by decide)) (by rfl) T.g_open_at T.F_open_at.kp T.b_open_at .nil pass0 (pa_cons (pv 0) (pa_cons (pv 1) (pa_cons (pv 3) pa_nil)))))) pa_nil)))), ?_⟩
    refine ⟨_, rfl, r, rfl, ⟨_, SqL.of hr0⟩, fun D hD => ?_⟩
    refine lc_list (xs := nV ks) (fun i H' => Same H H' ∧ H' D = some (.lst (((ks.take i).map (opn l fs)).map V.bl))) ⟨same_new hD, upd_same⟩ (fun i H3 _ hP => SqL.of (hP.1 _ _ hr0)) (fun i x H3 hx hP => ?_) (fun H3 hP => ?_)
    · obtain ⟨sm, hL⟩ := hP
      unfold nV at hx
      rw [List.getElem?_map] at hx
      obtain ⟨k, hk2, rfl⟩ := Option.map_eq_some_iff.mp hx
      refine ⟨rfl, yesT ?_⟩
      refine ⟨_, rfl, _, rfl, _, rfl, k, q, l, fs, rfl, hl, hF.k sm, fok, fun H4 s4 => ?_⟩
      refine ⟨_, s4 _ _ hL, by rw [List.length_map, List.length_map, List.length_take]; exact small1000 (by omega), same_mut (sm.trans s4) hD, ?_⟩
      rw [upd_same, List.map_take, List.map_take (l := ks) (i := i + 1), tk_map V.bl (l := ks.map (opn l fs)) (i := i) (by rw [List.getElem?_map, hk2]; rfl)]
    · obtain ⟨sm, hL⟩ := hP
      rw [nV_len, List.take_length] at hL
      refine ⟨D, _, rfl, SqL.of hL, ?_⟩
      have e : (ks.map (opn l fs)).all id = ks.all (opn l fs) := by rw [List.all_map]; rfl
      rw [e]
      exact kk _ sm
end
end K51

namespace K51
open PySem L2 Wm TL Dv Rm Lo Gtl
section
variable {P : Program} {w : World} {K : PySem.W.Frag} {mg : Str → Option Value} {base : Heap}
theorem dts_of {H : Hp} {ys : List V} {ds : List PyData} (l : ys.length = ds.length) (h : ∀ (i : Nat) y, ys[i]? = some y → ∃ d, ds[i]? = some d ∧ Dt K H y d) : Dts K H ys ds := by
  induction ds generalizing ys with
  | nil =>
    rw [List.eq_nil_of_length_eq_zero l]
    exact .nil
  | cons d ds ih =>
    cases ys with
    | nil => cases l
    | cons y ys =>
      refine .cons ?_ (ih (by simpa using l) fun i z hz => ?_)
      · obtain ⟨e, he, a⟩ := h 0 y rfl
        cases he
        exact a
      · obtain ⟨e, he, a⟩ := h (i + 1) z (by simpa using hz)
        exact ⟨e, by simpa using he, a⟩
theorem kt_bt {b : Addr} {n : Nat} {H H' : Hp} (bag : Bg H b n) (e : Bt b H H') : Kt K H H' := fun a xs q => by
  obtain ⟨c, k, x, y, z, ns, hb, _⟩ := bag
  rcases q with (q | ⟨ob, q⟩) | q
  · exact .inl (.inl (e.keep _ _ (fun z => by rw [z, hb] at q; cases q) q))
  · exact .inl (.inr ⟨ob, e.keep _ _ (fun z => by rw [z, hb] at q; cases q) q⟩)
  · exact .inr q
theorem bt_new {b v : Addr} {H H' : Hp} {o : HO} (e : Bt b H H') (h : H' v = none) : Bt b H (upd H' v o) := e.trans (Bt.of (same_new h))
theorem ite_lim {σ : L2.St} {c : Bool} {a b : Int} {H1 : Hp} {Q : VK} (q : ∀ x, (x = a ∨ x = b) → Q (.int x) H1) : if c = true then tC (V.int a) σ H1 Q else tC (V.int b) σ H1 Q := by
  cases c with
  | true => exact iteT (q _ (.inl rfl))
  | false => exact iteF (q _ (.inr rfl))
theorem ite_sgn {σ : L2.St} {c : Bool} {H1 : Hp} {Q : VK} (q : ∀ b : Bool, Q (.str (rgS [b])) H1) : if c = true then tC (V.str "s") σ H1 Q else tC (V.str "o") σ H1 Q := by
  cases c with
  | true =>
    have := q true
    rw [rgS_s] at this
    exact iteT this
  | false =>
    have := q false
    rw [rgS_o] at this
    exact iteF this
theorem mem_s_dec (l : List Bool) : (!decide (115 ∈ (rgS l).cps.toList)) = !decide (true ∈ l) := by
  congr 1
  exact decide_eq_decide.mpr (mem_s l)
theorem ok_text (T : Txt K mg) : FnOk P w K mg base CX0 2 T.a_text T.d_text ["_law_state"] (sp_text K) := by
  refine T.F_text.ok sc_text (fun vs H Q E h => ?_) (fun cdv A outer s H vs Q E hr h => ?_)
  · obtain ⟨b, n, rfl, _⟩ := h
    rfl
  · obtain ⟨b, n, rfl, hbag, hn, kk⟩ := h
    refine ⟨_, (pss_cons (ps_set (i := 1) sc_text.nd rfl (Or.inl rfl) (pe_op op_add pe_int (pe_call (ok_draw T) (hr.mono (by decide)) (by rfl) T.g_draw T.F_draw.kp T.b_draw .nil pass0 (pa_cons (pv 0) (pa_cons (pe_ifExp (pt_cmpR op_eq (pe_call (ok_draw T) (hr.mono (by decide)) (by rfl) T.g_draw T.F_draw.kp T.b_draw .nil pass0 (pa_cons (pv 0) (pa_cons pe_int pa_nil))) pe_int (nomark _)) pe_int pe_int) pa_nil)))))
      (pss_cons (ps_set (i := 2) sc_text.nd rfl (Or.inl rfl) (pe_ix ix_tup (pe_tup (pa_cons pe_int (pa_cons pe_int (pa_cons pe_int (pa_cons pe_int pa_nil))))) (pe_call (ok_draw T) (hr.mono (by decide)) (by rfl) T.g_draw T.F_draw.kp T.b_draw .nil pass0 (pa_cons (pv 0) (pa_cons pe_int pa_nil))) (fun _ _ => rfl)))
      (pss_cons (ps_set (i := 3) sc_text.nd rfl (Or.inl rfl) pe_str)
      (pss_cons (ps_for PassesOwn.never rfl (pi_range1 (by rfl) T.z_range (pa_cons (pv 1) pa_nil)) (pg_name (i := 4) sc_text.nd rfl (Or.inl rfl))
        (pss_one (ps_set (i := 3) sc_text.nd rfl (Or.inl rfl) (pe_op op_add_str (pv 3) (pe_ifExp (pt_cmpR op_ge (pe_call (ok_draw T) (hr.mono (by decide)) (by rfl) T.g_draw T.F_draw.kp T.b_draw .nil pass0 (pa_cons (pv 0) (pa_cons pe_int pa_nil))) (pv 2) (nomark _)) pe_str pe_str)))))
      (C8.pss_cut (ps_if (pt_cmpR op_notIn_sign pe_str (pv 3) rfl)
        (pss_cons (ps_set (i := 5) sc_text.nd rfl (Or.inl rfl) (pe_call (ok_draw T) (hr.mono (by decide)) (by rfl) T.g_draw T.F_draw.kp T.b_draw .nil pass0 (pa_cons (pv 0) (pa_cons (pv 1) pa_nil))))
        (pss_one (ps_set (i := 3) sc_text.nd rfl (Or.inl rfl) (pe_op op_add_str (pe_op op_add_str (pe_slice sl_str (pv 3) po_none (po_some (pv 5))) pe_str) (pe_slice sl_str (pv 3) (po_some (pe_op op_add (pv 5) pe_int)) po_none)))))
        pss_nil)
      (pss_one (ps_ret (pv 3)))))))), ?_⟩
    refine ⟨_, rfl, _, rfl, b, n, 4, rfl, by decide, by decide, hbag, by omega, fun H1 d1 g0 g1 bag1 but1 => ?_⟩
    refine ⟨rfl, _, rfl, ite_lim fun lim hlim => ?_⟩
    refine ⟨b, n + 1, lim, rfl, by omega, by omega, bag1, by omega, fun H2 d2 w0 w1 bag2 but2 => ?_⟩
    refine ⟨_, _, rfl, rfl, ?_⟩
    obtain ⟨many, em⟩ : ∃ many : Nat, (1 : Int) + d2 = (many : Nat) := ⟨(1 + d2).toNat, by omega⟩
    (try dsimp only; rw [em])
    have m1 : 1 ≤ many ∧ many ≤ 10 := by omega
    refine ⟨by show 4 ≤ sizeLine; decide, fun u hu => ?_⟩
    have but2u := (but1.trans but2).trans (Bt.of (same_new (o := .tup [.int 1, .int 1, .int 1, .int 2]) hu))
    refine ⟨_, rfl, b, n + 2, 4, rfl, by decide, by decide, bag2.keep (same_new hu), by omega, fun H3 d3 q0 q1 bag3 but3 => ?_⟩
    have ub : u ≠ b := bag2.off hu
    obtain ⟨sh, hsh⟩ : ∃ sh : Int, atI [V.int 1, V.int 1, V.int 1, V.int 2] d3 = some (.int sh) := by
      have : d3 = 0 ∨ d3 = 1 ∨ d3 = 2 ∨ d3 = 3 := by omega
      rcases this with rfl | rfl | rfl | rfl <;> exact ⟨_, rfl⟩
    refine ⟨u, _, d3, _, rfl, rfl, SqT.of (but3.keep _ _ ub upd_same), hsh, ?_⟩
    have but3b := but2u.trans but3
    refine ⟨_, rfl, _, rfl, by omega, by omega, ?_⟩
    rw [Int.toNat_natCast]
    refine for_range (fun i σ H' => ∃ (l : List Bool) (vk : Option V), σ = [some (.ref b), some (.int ((many : Nat) : Int)), some (.int sh), some (.str (rgS l)), vk, none] ∧ l.length = i ∧ Bg H' b (n + 3 + i) ∧ Bt b H H')
      ⟨[], none, by rw [rgS_nil]; rfl, rfl, bag3, but3b⟩ (fun i σ H' hi hP => ?_) (fun σ H' hP => ?_)
    · obtain ⟨l, vk, rfl, el, bag, but⟩ := hP
      refine ⟨_, rfl, _, rfl, b, n + 3 + i, 4, rfl, by decide, by decide, bag, by omega, fun H4 d4 e0 e1 bag4 but4 => ?_⟩
      refine ⟨_, rfl, _, _, rfl, rfl, _, rfl, ite_sgn fun x => ?_⟩
      refine ⟨_, _, rfl, rfl, by rw [rgS_len, rgS_len]; exact small_len (by simp; omega), ?_⟩
      rw [rgS_app]
      exact ⟨l ++ [x], _, rfl, by simp [el], bag4, but.trans but4⟩
    · obtain ⟨l, vk, rfl, el, bag, but⟩ := hP
      refine ⟨fun σ H1 => ∃ (l : List Bool) (vk va : Option V), σ = [some (.ref b), some (.int ((many : Nat) : Int)), some (.int sh), some (.str (rgS l)), vk, va] ∧ Ri l ∧ Bg H1 b (n + 30) ∧ Bt b H H1, ?_, ?_⟩
      · refine ⟨_, rfl, 115, _, rfl, rfl, _, rfl, ?_⟩
        rw [mem_s_dec]
        by_cases c : true ∈ l
        · rw [decide_eq_true c]
          exact iteF ⟨l, vk, none, rfl, ⟨by omega, c⟩, bag.mono (by omega), but⟩
        · rw [decide_eq_false c]
          refine iteT ⟨_, rfl, _, rfl, b, _, _, rfl, by omega, by omega, bag, by omega, fun H4 d4 e0 e1 bag4 but4 => ?_⟩
          obtain ⟨at', ea⟩ : ∃ at' : Nat, d4 = (at' : Nat) := ⟨d4.toNat, by omega⟩
          subst ea
          refine ⟨_, rfl, _, rfl, _, rfl, _, rfl, rg_small (by omega), ?_⟩
          rw [rgS_take]
          refine ⟨_, _, rfl, rfl, by rw [rgS_len, List.length_take]; exact small_len (Nat.le_trans (Nat.add_le_add_right (Nat.min_le_right _ _) _) (by show l.length + 1 ≤ _; omega)), ?_⟩
          rw [← rgS_s, rgS_app]
          refine ⟨_, rfl, _, rfl, _, _, rfl, rfl, ((at' + 1 : Nat) : Int), (by rw [Int.natCast_add]; rfl), _, rfl, rg_small (by omega), ?_⟩
          rw [rgS_drop]
          have ln : (l.take at' ++ [true] ++ l.drop (at' + 1)).length = l.length := by
            simp only [List.length_append, List.length_take, List.length_drop, List.length_singleton]
            omega
          refine ⟨_, _, rfl, rfl, by rw [rgS_len, rgS_len, ← List.length_append, ln]; exact small_len (by omega), ?_⟩
          rw [rgS_app]
          exact ⟨_, vk, _, rfl, ⟨by rw [ln]; omega, by simp⟩, bag4.mono (by omega), but.trans but4⟩
      · rintro σ H1 ⟨l, vk, va, rfl, R, bag, but⟩
        exact ⟨_, rfl, kk _ l R bag but⟩
theorem ok_faults (T : Txt K mg) : FnOk P w K mg base CX0 2 T.a_faults T.d_faults ["_law_state", "_law_text_here", "_law_many"] (sp_faults K) := by
  refine T.F_faults.ok sc_faults (fun vs H Q E h => ?_) (fun cdv A outer s H vs Q E hr h => ?_)
  · obtain ⟨b, n, many, l, rfl, _⟩ := h
    rfl
  · obtain ⟨b, n, many, l, rfl, hm, hl, hbag, hn, kk⟩ := h
    refine ⟨_, (pss_cons (ps_set (i := 3) sc_faults.nd rfl (Or.inl rfl) (pe_lst pa_nil))
      (pss_cons (ps_for PassesOwn.never rfl (pi_range1 (by rfl) T.z_range (pa_cons (pv 2) pa_nil)) (pg_name (i := 4) sc_faults.nd rfl (Or.inl rfl))
        (pss_one (ps_expr (pe_bm PySem.F.plainAttrs_list PySem.F.slot_list_append PySem.F.type_list_append mt_append (pv 3) (pa_cons (pe_tup (pa_cons (pe_ix ix_tup (pe_tup (pa_cons pe_str (pa_cons pe_str pa_nil))) (pe_call (ok_draw T) (hr.mono (by decide)) (by rfl) T.g_draw T.F_draw.kp T.b_draw .nil pass0 (pa_cons (pv 0) (pa_cons pe_int pa_nil))) (fun _ _ => rfl)) (pa_cons (pe_call (ok_draw T) (hr.mono (by decide)) (by rfl) T.g_draw T.F_draw.kp T.b_draw .nil pass0 (pa_cons (pv 0) (pa_cons (pe_op op_add (pe_callB call_len_str (by rfl) T.z_len PySem.boot_len (pa_cons (pv 1) pa_nil)) pe_int) pa_nil))) pa_nil))) pa_nil)))))
      (pss_one (ps_ret (pv 3))))), ?_⟩
    refine ⟨by decide, fun D hD => ?_⟩
    have Db := hbag.off hD
    refine ⟨_, rfl, _, rfl, by omega, by omega, ?_⟩
    rw [Int.toNat_natCast]
    refine for_range (fun i σ H' => ∃ fs xs vk, σ = [some (.ref b), some (.str (rgS l)), some (.int ((many : Nat) : Int)), some (.ref D), vk] ∧ fs.length = i ∧ (∀ f ∈ fs, f.2 ≤ l.length) ∧ H' D = some (.lst xs) ∧ Dts K H' xs (fs.map ftD) ∧ Bg H' b (n + 2 * i) ∧ Bt b H H')
      ⟨[], [], none, rfl, rfl, fun _ m => absurd m (List.not_mem_nil), upd_same, .nil, hbag.keep (same_new hD), Bt.of (same_new hD)⟩ (fun i σ H' hi hP => ?_) (fun σ H' hP => ?_)
    · obtain ⟨fs, xs, vk, rfl, el, hf, hD', hds, bag, but⟩ := hP
      refine ⟨_, rfl, .inl ⟨rfl, _, SqL.of hD'⟩, ?_⟩
      refine ⟨by show 2 ≤ sizeLine; decide, fun u hu => ?_⟩
      have ub : u ≠ b := bag.off hu
      have bu := Bt.of (b := b) (same_new (o := .tup [.str "cut", .str "short"]) hu)
      refine ⟨_, rfl, b, _, 2, rfl, by decide, by decide, bag.keep (same_new hu), by omega, fun H4 d4 e0 e1 bag4 but4 => ?_⟩
      obtain ⟨wd, hwd⟩ : ∃ wd : Bool, atI [V.str "cut", V.str "short"] d4 = some (.str (wdS wd)) := by
        have : d4 = 0 ∨ d4 = 1 := by omega
        rcases this with rfl | rfl
        · exact ⟨true, rfl⟩
        · exact ⟨false, rfl⟩
      refine ⟨u, _, d4, _, rfl, rfl, SqT.of (but4.keep _ _ ub upd_same), hwd, ?_⟩
      refine ⟨_, rfl, _, rfl, _, rfl, rg_small (by omega), _, _, rfl, rfl, b, _, _, rfl, by rw [rgS_len]; omega, by rw [rgS_len]; omega, bag4, by omega, fun H5 d5 f0 f1 bag5 but5 => ?_⟩
      rw [rgS_len] at f1
      obtain ⟨at', ea⟩ : ∃ at' : Nat, d5 = (at' : Nat) := ⟨d5.toNat, by omega⟩
      subst ea
      have b25 := (bu.trans but4).trans but5
      have hD5 := b25.keep _ _ Db hD'
      refine ⟨by show 2 ≤ sizeLine; decide, fun v hv => ?_⟩
      have vD : D ≠ v := ne_of_none hD5 hv
      have hD6 := at_old (q := v) (u := .tup [.str (wdS wd), .int ((at' : Nat) : Int)]) hD5 hv
      have lx := hds.len
      rw [List.length_map] at lx
      refine ⟨_, xs, _, rfl, rfl, hD6, by rw [lx, el]; exact small1000 (by omega), ?_⟩
      have k5 : Kt K (upd H5 v (.tup [.str (wdS wd), .int ((at' : Nat) : Int)])) (upd (upd H5 v (.tup [.str (wdS wd), .int ((at' : Nat) : Int)])) D (.lst (xs ++ [.ref v]))) := Kt.lst hD6
      refine ⟨fs ++ [(wd, at')], xs ++ [.ref v], _, rfl, by rw [List.length_append, el]; rfl, fun f m => ?_, upd_same, ?_, ?_, ?_⟩
      · rcases List.mem_append.mp m with m | m
        · exact hf f m
        · rw [List.mem_singleton.mp m]
          show at' ≤ l.length
          omega
      · rw [List.map_append]
        refine (((hds.k (kt_bt bag b25)).k (Kt.new hv)).k k5).snoc (Dt.k (dt_tup upd_same (.cons (.str _) (.cons (.int _) .nil))) k5)
      · exact (hbag.put (m := n + 2 * i + 1 + 1) hD (but.trans (bt_new b25 hv)) (bag5.keep (same_new hv))).mono (by omega)
      · exact (but.trans (bt_new b25 hv)).put hD
    · obtain ⟨fs, xs, vk, rfl, el, hf, hD', hds, bag, but⟩ := hP
      exact ⟨_, rfl, kk _ D fs xs hD el hf hD' hds bag but⟩
theorem ok_heard (T : Txt K mg) : FnOk P w K mg base CX0 4 T.a_heard T.d_heard ["_law_text_here", "_law_faults_here"] (sp_heard K) := by
  refine T.F_heard.ok sc_heard (fun vs H Q E h => ?_) (fun cdv A outer s H vs Q E hr h => ?_)
  · obtain ⟨q, l, fs, rfl, _⟩ := h
    rfl
  · obtain ⟨q, l, fs, rfl, hl, hF, fok, kk⟩ := h
    refine ⟨_, (pss_cons (ps_set (i := 2) sc_heard.nd rfl (Or.inl rfl) (pe_call (ok_spots T) (hr.mono (by decide)) (by rfl) T.g_spots T.F_spots.kp T.b_spots .nil pass0 (pa_cons (pv 0) pa_nil)))
      (pss_cons (ps_set (i := 3) sc_heard.nd rfl (Or.inl rfl) (pe_lst pa_nil))
      (pss_cons (ps_for PassesOwn.never rfl (pi_range1 (by rfl) T.z_range (pa_cons (pe_callB call_len_seq (by rfl) T.z_len PySem.boot_len (pa_cons (pv 2) pa_nil)) pa_nil)) (pg_name (i := 4) sc_heard.nd rfl (Or.inl rfl))
        (pss_cons (ps_set (i := 5) sc_heard.nd rfl (Or.inl rfl) (pe_call (ok_passed T) (hr.mono (by decide)) (by rfl) T.g_passed T.F_passed.kp T.b_passed .nil pass0 (pa_cons (pv 0) (pa_cons (pv 1) (pa_cons (pe_listRg rfl (by rfl) T.z_list (prg_1 (by rfl) T.z_range (pe_op op_add (pe_ix ix_list (pv 2) (pv 4) (fun _ _ => rfl)) pe_int))) pa_nil)))))
        (pss_cons (ps_set (i := 6) sc_heard.nd rfl (Or.inl rfl) (pe_call (ok_passed T) (hr.mono (by decide)) (by rfl) T.g_passed T.F_passed.kp T.b_passed .nil pass0 (pa_cons (pv 0) (pa_cons (pv 1) (pa_cons (pe_listRg rfl (by rfl) T.z_list (prg_2 (by rfl) T.z_range (pe_op op_add (pe_ix ix_list (pv 2) (pv 4) (fun _ _ => rfl)) pe_int) (pe_op op_add (pe_callB call_len_str (by rfl) T.z_len PySem.boot_len (pa_cons (pv 0) pa_nil)) pe_int))) pa_nil)))))
        (pss_one (ps_if (PW.pt (pw_or (pt_val (pv 5)) (pw_or1 (pt_val (pv 6)))))
          (pss_one (ps_expr (pe_bm PySem.F.plainAttrs_list PySem.F.slot_list_append PySem.F.type_list_append mt_append (pv 3) (pa_cons (pv 4) pa_nil))))
          pss_nil)))))
      (pss_one (ps_ret (pe_callTy call_tuple_of (by rfl) T.z_tuple (by decide +kernel) (pa_cons (pv 3) pa_nil))))))), ?_⟩
    refine ⟨_, rfl, l, rfl, hl, fun H1 r s1 nr hr1 => ?_⟩
    refine ⟨by decide, fun D hD => ?_⟩
    have cl : l.count true ≤ l.length := List.count_le_length
    have rD : r ≠ D := ne_of_none hr1 hD
    have s2 := s1.trans (same_new (o := .lst []) hD)
    refine ⟨_, rfl, r, _, rfl, .inl (SqL.of (at_old hr1 hD)), _, rfl, by rw [nV_len, Rm.sp_len]; omega, by rw [nV_len, Rm.sp_len]; omega, ?_⟩
    rw [nV_len, Rm.sp_len, Int.toNat_natCast]
    refine for_range (fun i σ H' => ∃ v4 v5 v6, σ = [some (.str (rgS l)), some (.ref q), some (.ref r), some (.ref D), v4, v5, v6] ∧ Same H H' ∧ H' r = some (.lst (nV (sp l))) ∧ H' D = some (.lst (nV ((List.range i).filter fun j => pL l (opn l fs) j || pR l (opn l fs) j))))
      ⟨none, none, none, rfl, s2, at_old hr1 hD, upd_same⟩ (fun i σ H' hi hP => ?_) (fun σ H' hP => ?_)
    · obtain ⟨v4, v5, v6, rfl, sm, hr', hD'⟩ := hP
      have es := sp_at hi
      have esl := sp_mem l i _ es
      have es2 : (nV (sp l))[i]? = some (.int ((spo l i : Nat) : Int)) := by unfold nV; rw [List.getElem?_map, es]; rfl
      refine ⟨_, rfl, _, rfl, _, rfl, _, rfl, r, _, ((i : Nat) : Int), _, rfl, (show V.int (0 + ((i : Nat) : Int)) = V.int ((i : Nat) : Int) by rw [Int.zero_add]), SqL.of hr', atI_nat es2, _, _, rfl, rfl, _, rfl, RgOk.of_le (by omega) (by omega) (by omega) (by omega), fun u hu => ?_⟩
      have eA : rgV 0 (((spo l i : Nat) : Int) + 1) = nV (List.range (spo l i + 1)) := nV_rg (spo l i + 1)
      have eB : rgV (((spo l i : Nat) : Int) + 1) (((l.length : Nat) : Int) + 1) = nV (List.range' (spo l i + 1) (l.length - spo l i)) := by
        rw [← rgV_nats]
        congr 1
        omega
      rw [eA]
      have s3 := sm.trans (same_new (o := .lst (nV (List.range (spo l i + 1)))) hu)
      refine ⟨q, u, l, fs, _, rfl, hl, hF.k s3, fok, upd_same, by rw [List.length_range]; omega, fun H4 s4 => ?_⟩
      have s34 := s3.trans s4
      have hr4 := s4 _ _ (at_old (q := u) (u := .lst (nV (List.range (spo l i + 1)))) hr' hu)
      have hD4 := s4 _ _ (at_old (q := u) (u := .lst (nV (List.range (spo l i + 1)))) hD' hu)
      refine ⟨_, rfl, _, rfl, _, rfl, _, rfl, r, _, ((i : Nat) : Int), _, rfl, (show V.int (0 + ((i : Nat) : Int)) = V.int ((i : Nat) : Int) by rw [Int.zero_add]), SqL.of hr4, atI_nat es2, _, _, rfl, rfl, _, rfl, _, rfl, rg_small (by omega), _, _, rfl, rfl, _, _, rfl, rfl, ?_⟩
      rw [rgS_len]
      refine ⟨RgOk.of_le (by omega) (by omega) (by omega) (by omega), fun v hv => ?_⟩
      rw [eB]
      have s5 := s34.trans (same_new (o := .lst (nV (List.range' (spo l i + 1) (l.length - spo l i)))) hv)
      refine ⟨q, v, l, fs, _, rfl, hl, hF.k s5, fok, upd_same, by rw [List.length_range']; omega, fun H6 s6 => ?_⟩
      have s56 := s5.trans s6
      have hr6 := s6 _ _ (at_old (q := v) (u := .lst (nV (List.range' (spo l i + 1) (l.length - spo l i)))) hr4 hv)
      have hD6 := s6 _ _ (at_old (q := v) (u := .lst (nV (List.range' (spo l i + 1) (l.length - spo l i)))) hD4 hv)
      have hD0 : H D = none := none_back s1 hD
      have rng : (List.range (i + 1)).filter (fun j => pL l (opn l fs) j || pR l (opn l fs) j) = (List.range i).filter (fun j => pL l (opn l fs) j || pR l (opn l fs) j) ++ if (pL l (opn l fs) i || pR l (opn l fs) i) = true then [i] else [] := by
        rw [List.range_succ, List.filter_append]
        cases e : (pL l (opn l fs) i || pR l (opn l fs) i) <;> simp [e]
      have lf : ((List.range i).filter fun j => pL l (opn l fs) j || pR l (opn l fs) j).length ≤ 10 := Nat.le_trans (List.length_filter_le _ _) (by rw [List.length_range]; omega)
      have fin : (pL l (opn l fs) i || pR l (opn l fs) i) = true → Same H (upd H6 D (.lst (nV ((List.range i).filter fun j => pL l (opn l fs) j || pR l (opn l fs) j) ++ [V.int (0 + ((i : Nat) : Int))]))) ∧ upd H6 D (.lst (nV ((List.range i).filter fun j => pL l (opn l fs) j || pR l (opn l fs) j) ++ [V.int (0 + ((i : Nat) : Int))])) r = some (.lst (nV (sp l))) ∧
          upd H6 D (.lst (nV ((List.range i).filter fun j => pL l (opn l fs) j || pR l (opn l fs) j) ++ [V.int (0 + ((i : Nat) : Int))])) D = some (.lst (nV ((List.range (i + 1)).filter fun j => pL l (opn l fs) j || pR l (opn l fs) j))) := fun e => by
        refine ⟨same_mut s56 hD0, by rw [upd_ne rD]; exact hr6, ?_⟩
        rw [upd_same, rng, if_pos e, Int.zero_add, nV_snoc]
      refine ⟨_, rfl, _, rfl, ?_⟩
      cases e1 : (List.range (spo l i + 1)).all (opn l fs) with
      | true =>
        have e2 : (pL l (opn l fs) i || pR l (opn l fs) i) = true := Bool.or_eq_true_iff.mpr (.inl e1)
        refine iteT ⟨_, rfl, .inl ⟨rfl, _, SqL.of hD6⟩, _, rfl, D, _, _, rfl, rfl, hD6, by rw [nV_len]; exact small1000 (by omega), ?_⟩
        exact ⟨_, _, _, rfl, (fin e2).1, (fin e2).2.1, (fin e2).2.2⟩
      | false =>
        refine iteF ⟨_, rfl, _, rfl, ?_⟩
        cases e3 : (List.range' (spo l i + 1) (l.length - spo l i)).all (opn l fs) with
        | true =>
          have e2 : (pL l (opn l fs) i || pR l (opn l fs) i) = true := Bool.or_eq_true_iff.mpr (.inr e3)
          refine iteT ⟨_, rfl, .inl ⟨rfl, _, SqL.of hD6⟩, _, rfl, D, _, _, rfl, rfl, hD6, by rw [nV_len]; exact small1000 (by omega), ?_⟩
          exact ⟨_, _, _, rfl, (fin e2).1, (fin e2).2.1, (fin e2).2.2⟩
        | false =>
          have e2 : (pL l (opn l fs) i || pR l (opn l fs) i) = false := Bool.or_eq_false_iff.mpr ⟨e1, e3⟩
          refine iteF ⟨_, _, _, rfl, s56, hr6, ?_⟩
          rw [rng, if_neg (by rw [e2]; decide), List.append_nil]
          exact hD6
    · obtain ⟨v4, v5, v6, rfl, sm, hr', hD'⟩ := hP
      refine ⟨_, rfl, D, _, rfl, .inl ⟨SqL.of hD', fun t ht => ?_⟩⟩
      exact kk _ t (sm.trans (same_new ht)) (none_back sm ht) upd_same
theorem pos_take {l : List Bool} {i z k : Nat} (h : (zs l)[i]? = some k) : pos 0 ((zs l).take (i + 1)) z = pos 0 ((zs l).take i) z ++ if k = z then [i] else [] := by
  have hi := (List.getElem?_eq_some_iff.mp h).1
  rw [List.take_add_one, h]
  show pos 0 ((zs l).take i ++ [k]) z = _
  rw [pos_snoc, List.length_take, Nat.min_eq_left (Nat.le_of_lt hi), Nat.zero_add]
theorem zs_at {l : List Bool} {i : Nat} (h : i < l.count true) : (zs l)[i]? = some (zone l (spo l i)) := by
  rw [zs_sp, List.getElem?_map, sp_at h]
  rfl
theorem pos_len : ∀ (a : List Nat) (f z : Nat), (pos f a z).length ≤ a.length
  | [], _, _ => Nat.le_refl _
  | x :: a, f, z => by
    have := pos_len a (f + 1) z
    show (if x = z then f :: pos (f + 1) a z else pos (f + 1) a z).length ≤ _
    split <;> simp <;> omega
end
end K51

namespace K51
open PySem L2 Wm TL Dv Rm Lo Gtl
section
variable {P : Program} {w : World} {K : PySem.W.Frag} {mg : Str → Option Value} {base : Heap}
theorem Mk_house {C HC : Addr} {H' : Hp} {p dx q : Addr} {h : Hs} (e : H' p = some (.ins HC dx [("box", .str (numS h.ds)), ("ring", .str (rgS h.l)), ("mark", .int h.m), ("rows", .int h.r), ("need", .int (h.n : Nat)), ("layout", .ref q), ("seekers", .int ((h.l.count true : Nat) : Int))])) (t : RingAt K C H' q h.l) : HouseAt K C HC H' p h := by
  refine ⟨dx, _, q, e, rfl, rfl, rfl, rfl, rfl, rfl, rfl, fun m a b c d e2 f g => ?_, t⟩
  have n : ∀ {x : Str}, m ≠ x → (m == x) = false := fun h => by simpa using h
  simp only [List.lookup, n a, n b, n c, n d, n e2, n f, n g]
theorem RingAt.off {C : Addr} {H H' : Hp} {p q : Addr} {l : List Bool} (h : RingAt K C H q l) (n : q ≠ p) (k : Kt K H H') (o : Off p H H') : RingAt K C H' q l := by
  obtain ⟨dx, fs, y, hp, l1, l2, l3, l4, t⟩ := h
  exact ⟨dx, fs, y, o _ _ n hp, l1, l2, l3, l4, t.k k⟩
theorem ok_hinit (T : Txt K mg) : FnOk P w K mg base (L2.CX P w) 5 T.a_hinit T.d_hinit ["self", "box", "ring", "mark", "rows", "need"] (sp_hinit K T.C T.HC T.CH) := by
  refine T.F_hinit.ok sc_hinit (fun vs H Q E h => ?_) (fun cdv A outer s H vs Q E hr h => ?_)
  · obtain ⟨p, dx, x, y, a, b, c, o, rfl, _⟩ := h
    rfl
  · obtain ⟨p, dx, x, y, a, b, c, o, rfl, hp, hi, er⟩ := h
    refine ⟨_, (pss_cons (ps_if (pt_not (pt_val (pe_call (ok_is_number T) (hr.mono (by decide)) (by rfl) T.g_is_number T.F_is_number.kp T.b_is_number .nil pass0 (pa_cons (pv 1) pa_nil))))
        (pss_one (ps_raiseLowH rfl T.lowH hr (takes_of rfl rfl rfl rfl) (by exact (pa_cons pe_str pa_nil))))
        pss_nil)
      (pss_cons (ps_if (pt_not (pt_val (pe_call (ok_is_ring_text T) (hr.mono (by decide)) (by rfl) T.g_is_ring_text T.F_is_ring_text.kp T.b_is_ring_text .nil pass0 (pa_cons (pv 2) pa_nil))))
        (pss_one (ps_raiseLowH rfl T.lowH hr (takes_of rfl rfl rfl rfl) (by exact (pa_cons pe_str pa_nil))))
        pss_nil)
      (pss_cons (ps_if (pt_not (pt_val (pe_call (ok_is_whole T) (hr.mono (by decide)) (by rfl) T.g_is_whole T.F_is_whole.kp T.b_is_whole .nil pass0 (pa_cons (pv 3) pa_nil))))
        (pss_one (ps_raiseLowH rfl T.lowH hr (takes_of rfl rfl rfl rfl) (by exact (pa_cons pe_str pa_nil))))
        pss_nil)
      (pss_cons (ps_if (pt_not (pt_val (pe_call (ok_is_whole_within T) (hr.mono (by decide)) (by rfl) T.g_is_whole_within T.F_is_whole_within.kp T.b_is_whole_within .nil pass0 (pa_cons (pv 4) (pa_cons pe_int (pa_cons (pe_glob (v := V.int 8) rfl T.c_MOST_ROWS ⟨_, rfl⟩) pa_nil))))))
        (pss_one (ps_raiseLowH rfl T.lowH hr (takes_of rfl rfl rfl rfl) (by exact (pa_cons pe_str pa_nil))))
        pss_nil)
      (pss_cons (ps_if (pt_not (pt_val (pe_call (ok_is_whole_within T) (hr.mono (by decide)) (by rfl) T.g_is_whole_within T.F_is_whole_within.kp T.b_is_whole_within .nil pass0 (pa_cons (pv 5) (pa_cons pe_int (pa_cons (pe_bm PySem.F.plainAttrs_str PySem.F.slot_str_count PySem.F.type_str_count mt_count (pv 2) (pa_cons (pe_glob (v := V.str "s") rfl T.c_SEEKER ⟨_, rfl⟩) pa_nil)) pa_nil))))))
        (pss_one (ps_raiseLowH rfl T.lowH hr (takes_of rfl rfl rfl rfl) (by exact (pa_cons pe_str pa_nil))))
        pss_nil)
      (pss_cons (ps_fld (pv 0) (pv 1) rfl)
      (pss_cons (ps_fld (pv 0) (pv 2) rfl)
      (pss_cons (ps_fld (pv 0) (pv 3) rfl)
      (pss_cons (ps_fld (pv 0) (pv 4) rfl)
      (pss_cons (ps_fld (pv 0) (pv 5) rfl)
      (pss_cons (ps_fld (pv 0) (pe_make T.mk_init (ok_init T) (hr.mono (by decide)) (by rfl) T.gC T.b_init .nil (Po.passL 6 rfl (takes_of rfl rfl rfl rfl)) (pa_cons (pv 2) pa_nil)) rfl)
      (pss_one (ps_fld (pv 0) (pe_fld (pe_fld (pv 0) rfl) rfl) rfl))))))))))))), ?_⟩
    have raise : ∀ {w : Str} {H1 : Hp}, Er T.CH "what" E H (.str w) → Same H H1 → ∀ dd, H1 dd = none → E (.ref T.CH) (some dd) (upd H1 dd (.xd [("what", V.str w)])) := fun er s dd hd => er _ dd (s.trans (same_new hd)) upd_same
    cases hi with
    | box bad =>
      rcases bad with ⟨t, rfl, ht, no⟩ | no
      · refine ⟨_, rfl, _, rfl, .inl ⟨_, rfl, ht, fun H1 bb s1 hb => ?_⟩⟩
        have eb : bb = false := by
          cases bb with
          | false => rfl
          | true => exact absurd (hb.mp rfl) no
        subst eb
        exact ⟨false, rfl, iteT ⟨_, rfl, raise er s1⟩⟩
      · exact ⟨_, rfl, _, rfl, .inr ⟨no, ⟨false, rfl, iteT ⟨_, rfl, raise er (Same.refl _)⟩⟩⟩⟩
    | ring N bad =>
      refine ⟨_, rfl, _, rfl, .inl ⟨_, rfl, by rw [numS_len]; have := N.len; omega, fun H1 bb s1 hb => ?_⟩⟩
      have eb : bb = true := hb.mpr ⟨_, N, rfl⟩
      subst eb
      refine ⟨true, rfl, iteF ?_⟩
      rcases bad with ⟨t, rfl, ht, no⟩ | no
      · refine ⟨_, rfl, _, rfl, .inl ⟨_, rfl, ht, fun H2 bb s2 hb => ?_⟩⟩
        have eb : bb = false := by
          cases bb with
          | false => rfl
          | true => exact absurd (hb.mp rfl) no
        subst eb
        exact ⟨false, rfl, iteT ⟨_, rfl, raise er (s1.trans s2)⟩⟩
      · obtain ⟨ty0, ty, kt⟩ := no
        exact ⟨_, rfl, _, rfl, .inr ⟨⟨ty0, fun H' s => ty H' (s1.trans s), kt⟩, ⟨false, rfl, iteT ⟨_, rfl, raise er s1⟩⟩⟩⟩
    | mark N R t =>
      refine ⟨_, rfl, _, rfl, .inl ⟨_, rfl, by rw [numS_len]; have := N.len; omega, fun H1 bb s1 hb => ?_⟩⟩
      have eb : bb = true := hb.mpr ⟨_, N, rfl⟩
      subst eb
      refine ⟨true, rfl, iteF ?_⟩
      refine ⟨_, rfl, _, rfl, .inl ⟨_, rfl, by rw [rgS_len]; have := R.len; omega, fun H2 bb s2 hb => ?_⟩⟩
      have eb : bb = true := hb.mpr ((ring_iff _).mpr R)
      subst eb
      refine ⟨true, rfl, iteF ?_⟩
      have s2 := s1.trans s2
      exact ⟨_, rfl, _, _, rfl, t.k s2, ⟨false, rfl, iteT ⟨_, rfl, raise er s2⟩⟩⟩
    | rows N R t w =>
      refine ⟨_, rfl, _, rfl, .inl ⟨_, rfl, by rw [numS_len]; have := N.len; omega, fun H1 bb s1 hb => ?_⟩⟩
      have eb : bb = true := hb.mpr ⟨_, N, rfl⟩
      subst eb
      refine ⟨true, rfl, iteF ?_⟩
      refine ⟨_, rfl, _, rfl, .inl ⟨_, rfl, by rw [rgS_len]; have := R.len; omega, fun H2 bb s2 hb => ?_⟩⟩
      have eb : bb = true := hb.mpr ((ring_iff _).mpr R)
      subst eb
      refine ⟨true, rfl, iteF ?_⟩
      have s2 := s1.trans s2
      refine ⟨_, rfl, _, _, rfl, .int _, ⟨true, rfl, iteF ?_⟩⟩
      refine ⟨_, rfl, _, _, _, _, rfl, t.k s2, ?_⟩
      rw [w]
      exact ⟨false, rfl, iteT ⟨_, rfl, raise er s2⟩⟩
    | @need ds l m r c o N R r1 r8 t w =>
      refine ⟨_, rfl, _, rfl, .inl ⟨_, rfl, by rw [numS_len]; have := N.len; omega, fun H1 bb s1 hb => ?_⟩⟩
      have eb : bb = true := hb.mpr ⟨_, N, rfl⟩
      subst eb
      refine ⟨true, rfl, iteF ?_⟩
      refine ⟨_, rfl, _, rfl, .inl ⟨_, rfl, by rw [rgS_len]; have := R.len; omega, fun H2 bb s2 hb => ?_⟩⟩
      have eb : bb = true := hb.mpr ((ring_iff _).mpr R)
      subst eb
      refine ⟨true, rfl, iteF ?_⟩
      have s2 := s1.trans s2
      refine ⟨_, rfl, _, _, rfl, .int _, ⟨true, rfl, iteF ?_⟩⟩
      refine ⟨_, rfl, _, _, _, _, rfl, .int _, ?_⟩
      rw [show within 1 8 (some r) = true by show (decide ((1 : Int) ≤ r) && decide (r ≤ 8)) = true; rw [decide_eq_true (by omega), decide_eq_true (by omega)]; rfl]
      refine ⟨true, rfl, iteF ?_⟩
      refine ⟨_, rfl, _, rfl, rfl, _, _, rfl, rfl, ?_⟩
      rw [count_s]
      refine ⟨_, _, _, _, rfl, t.k s2, ?_⟩
      rw [w]
      exact ⟨false, rfl, iteT ⟨_, rfl, raise er s2⟩⟩
    | @ok h g =>
      have N := g.num
      have R := g.ri
      have r1 := g.r1
      have r8 := g.r8
      have n1 := g.n1
      have nl := g.nl
      refine ⟨_, rfl, _, rfl, .inl ⟨_, rfl, by rw [numS_len]; have := N.len; omega, fun H1 bb s1 hb => ?_⟩⟩
      have eb : bb = true := hb.mpr ⟨_, N, rfl⟩
      subst eb
      refine ⟨true, rfl, iteF ?_⟩
      refine ⟨_, rfl, _, rfl, .inl ⟨_, rfl, by rw [rgS_len]; have := R.len; omega, fun H2 bb s2 hb => ?_⟩⟩
      have eb : bb = true := hb.mpr ((ring_iff _).mpr R)
      subst eb
      refine ⟨true, rfl, iteF ?_⟩
      have s2 := s1.trans s2
      refine ⟨_, rfl, _, _, rfl, .int _, ⟨true, rfl, iteF ?_⟩⟩
      refine ⟨_, rfl, _, _, _, _, rfl, .int _, ?_⟩
      rw [show within 1 8 (some h.r) = true by show (decide ((1 : Int) ≤ h.r) && decide (h.r ≤ 8)) = true; rw [decide_eq_true (by omega), decide_eq_true (by omega)]; rfl]
      refine ⟨true, rfl, iteF ?_⟩
      refine ⟨_, rfl, _, rfl, rfl, _, _, rfl, rfl, ?_⟩
      rw [count_s]
      refine ⟨_, _, _, _, rfl, .int _, ?_⟩
      rw [show within 1 ((h.l.count true : Nat) : Int) (some ((h.n : Nat) : Int)) = true by show (decide ((1 : Int) ≤ ((h.n : Nat) : Int)) && decide (((h.n : Nat) : Int) ≤ ((h.l.count true : Nat) : Int))) = true; rw [decide_eq_true (by omega), decide_eq_true (by omega)]; rfl]
      refine ⟨true, rfl, iteF ?_⟩
      have hp2 := s2 _ _ hp
      refine ⟨_, rfl, _, rfl, p, T.HC, dx, [], rfl, hp2, T.clHC, T.nBo, by show 0 < 1000; decide, ?_⟩
      refine ⟨_, rfl, _, rfl, p, T.HC, dx, _, rfl, upd_same, T.clHC, T.nRi, by show 1 < 1000; decide, ?_⟩
      refine ⟨_, rfl, _, rfl, p, T.HC, dx, _, rfl, upd_same, T.clHC, T.nMa, by show 2 < 1000; decide, ?_⟩
      refine ⟨_, rfl, _, rfl, p, T.HC, dx, _, rfl, upd_same, T.clHC, T.nRo, by show 3 < 1000; decide, ?_⟩
      refine ⟨_, rfl, _, rfl, p, T.HC, dx, _, rfl, upd_same, T.clHC, T.nNe, by show 4 < 1000; decide, ?_⟩
      rw [upd_upd, upd_upd, upd_upd, upd_upd]
      refine ⟨_, rfl, fun q dq hq hdq ne => ?_⟩
      have hpH : upd H2 p (.ins T.HC dx [("box", .str (numS h.ds)), ("ring", .str (rgS h.l)), ("mark", .int h.m), ("rows", .int h.r), ("need", .int (h.n : Nat))]) p = some (.ins T.HC dx [("box", .str (numS h.ds)), ("ring", .str (rgS h.l)), ("mark", .int h.m), ("rows", .int h.r), ("need", .int (h.n : Nat))]) := upd_same
      have o3 : Off p H (upd H2 p (.ins T.HC dx [("box", .str (numS h.ds)), ("ring", .str (rgS h.l)), ("mark", .int h.m), ("rows", .int h.r), ("need", .int (h.n : Nat))])) := (Off.of s2).trans Off.set
      have hq : upd H2 p (.ins T.HC dx [("box", .str (numS h.ds)), ("ring", .str (rgS h.l)), ("mark", .int h.m), ("rows", .int h.r), ("need", .int (h.n : Nat))]) q = none := hq
      have hdq : upd H2 p (.ins T.HC dx [("box", .str (numS h.ds)), ("ring", .str (rgS h.l)), ("mark", .int h.m), ("rows", .int h.r), ("need", .int (h.n : Nat))]) dq = none := hdq
      show sp_init K T.C T.CR _ (upd (upd (upd H2 p (.ins T.HC dx [("box", .str (numS h.ds)), ("ring", .str (rgS h.l)), ("mark", .int h.m), ("rows", .int h.r), ("need", .int (h.n : Nat))])) dq (.own q)) q (.ins T.C dq [])) _ _
      generalize upd H2 p (.ins T.HC dx [("box", .str (numS h.ds)), ("ring", .str (rgS h.l)), ("mark", .int h.m), ("rows", .int h.r), ("need", .int (h.n : Nat))]) = H3 at *
      have np : p ≠ q := ne_of_none hpH hq
      refine ⟨q, dq, _, rfl, upd_same, .inl ⟨h.l, rfl, R, fun H4 off rg => ⟨rfl, ?_⟩⟩⟩
      have s34 := made_off hq hdq ne off
      have hp4 := s34 _ _ hpH
      refine ⟨_, rfl, p, T.HC, dx, _, rfl, hp4, T.clHC, T.nLa, by show 5 < 1000; decide, ?_⟩
      have kt5 := kt_ins (K := K) (o := .ins T.HC dx [("box", .str (numS h.ds)), ("ring", .str (rgS h.l)), ("mark", .int h.m), ("rows", .int h.r), ("need", .int (h.n : Nat)), ("layout", .ref q)]) hp4
      have rg5 := rg.off (Ne.symm np) kt5 Off.set
      obtain ⟨dq2, fs2, y2, hq2, m1, m2, m3, m4, t2⟩ := id rg5
      refine ⟨_, rfl, p, T.HC, dx, _, _, rfl, upd_same, T.clHC, T.nLa, rfl, q, T.C, dq2, fs2, _, rfl, hq2, T.clC, T.nS, m2, _, rfl, p, T.HC, dx, _, rfl, upd_same, T.clHC, T.nSk, by show 6 < 1000; decide, ?_⟩
      rw [upd_upd]
      have er : ∀ H', (∀ q o, q ≠ p → H q = some o → H' q = some o) → HouseAt K T.C T.HC H' p h → Q .non H' := er
      refine er _ (o3.trans ((Off.of s34).trans Off.set)) (Mk_house (q := q) upd_same (rg.off (Ne.symm np) (kt_ins hp4) Off.set))
end
end K51

namespace K51
open PySem L2 Wm TL Dv Rm Lo Gtl
section
variable {P : Program} {w : World} {K : PySem.W.Frag} {mg : Str → Option Value} {base : Heap}
theorem HouseAt.keep {C HC : Addr} {H H' : Hp} {p : Addr} {h : Hs} (x : HouseAt K C HC H p h) (s : Same H H') : HouseAt K C HC H' p h := by
  obtain ⟨dx, fs, q, hp, l1, l2, l3, l4, l5, l6, l7, l8, r⟩ := x
  obtain ⟨d2, fs2, y, hq, m1, m2, m3, m4, t⟩ := r
  exact ⟨dx, fs, q, s _ _ hp, l1, l2, l3, l4, l5, l6, l7, l8, d2, fs2, y, s _ _ hq, m1, m2, m3, m4, t.k (Kt.same s)⟩
theorem RingAt.keep {C : Addr} {H H' : Hp} {q : Addr} {l : List Bool} (r : RingAt K C H q l) (s : Same H H') : RingAt K C H' q l := by
  obtain ⟨d2, fs2, y, hq, m1, m2, m3, m4, t⟩ := r
  exact ⟨d2, fs2, y, s _ _ hq, m1, m2, m3, m4, t.k (Kt.same s)⟩
theorem ok_heq (T : Txt K mg) : FnOk P w K mg base CX0 1 T.a_heq T.d_heq ["self", "other"] (sp_heq K T.C T.HC) := by
  refine T.F_heq.ok sc_heq (fun vs H Q E h => ?_) (fun cdv A outer s H vs Q E hr h => ?_)
  · obtain ⟨p, p2, h, h2, rfl, _⟩ := h
    rfl
  · obtain ⟨p, p2, h, h2, rfl, a, b, k⟩ := h
    obtain ⟨dx, fs, q, hp, l1, l2, l3, l4, l5, l6, l7, l8, _⟩ := a
    obtain ⟨dx', fs', q', hp', m1, m2, m3, m4, m5, m6, m7, m8, _⟩ := b
    refine ⟨_, (pss_one (ps_ret (pe_and (pe_callB call_isi (by rfl) T.z_isinstance (by decide +kernel) (pa_cons (pv 1) (pa_cons (pe_glob (v := V.ref T.HC) rfl T.gHC rfl) pa_nil))) (pe_and (pe_cmpR op_eq (pe_fld (pv 0) rfl) (pe_fld (pv 1) rfl) (nomark _)) (pe_and (pe_cmpR op_eq (pe_fld (pv 0) rfl) (pe_fld (pv 1) rfl) (nomark _)) (pe_and (pe_cmpR op_eq (pe_fld (pv 0) rfl) (pe_fld (pv 1) rfl) (nomark _)) (pe_and (pe_cmpR op_eq (pe_fld (pv 0) rfl) (pe_fld (pv 1) rfl) (nomark _)) (pe_one (pe_cmpR op_eq (pe_fld (pv 0) rfl) (pe_fld (pv 1) rfl) (nomark _)))))))))), ?_⟩
    refine ⟨_, rfl, _, _, _, _, true, rfl, .own T.HC, .base (.ins hp' T.clHC T.isi.ca T.isi.cn T.isi.ct T.isi.cm), T.kS, true, rfl, iteT ?_⟩
    unfold eqH at k
    refine ⟨_, rfl, p, T.HC, dx, fs, _, rfl, hp, T.clHC, T.nBo, l1, _, rfl, p2, T.HC, dx', fs', _, rfl, hp', T.clHC, T.nBo, m1, rfl, _, rfl, ?_⟩
    cases c1 : decide (V.str (numS h.ds) = V.str (numS h2.ds)) with
    | false => rw [c1] at k; exact iteF k
    | true =>
    rw [c1] at k
    refine iteT ⟨_, rfl, p, T.HC, dx, fs, _, rfl, hp, T.clHC, T.nRi, l2, _, rfl, p2, T.HC, dx', fs', _, rfl, hp', T.clHC, T.nRi, m2, rfl, _, rfl, ?_⟩
    cases c2 : decide (V.str (rgS h.l) = V.str (rgS h2.l)) with
    | false => rw [c2] at k; exact iteF k
    | true =>
    rw [c2] at k
    refine iteT ⟨_, rfl, p, T.HC, dx, fs, _, rfl, hp, T.clHC, T.nMa, l3, _, rfl, p2, T.HC, dx', fs', _, rfl, hp', T.clHC, T.nMa, m3, rfl, _, rfl, ?_⟩
    cases c3 : decide (V.int h.m = V.int h2.m) with
    | false => rw [c3] at k; exact iteF k
    | true =>
    rw [c3] at k
    refine iteT ⟨_, rfl, p, T.HC, dx, fs, _, rfl, hp, T.clHC, T.nRo, l4, _, rfl, p2, T.HC, dx', fs', _, rfl, hp', T.clHC, T.nRo, m4, rfl, _, rfl, ?_⟩
    cases c4 : decide (V.int h.r = V.int h2.r) with
    | false => rw [c4] at k; exact iteF k
    | true =>
    rw [c4] at k
    exact iteT ⟨_, rfl, p, T.HC, dx, fs, _, rfl, hp, T.clHC, T.nNe, l5, _, rfl, p2, T.HC, dx', fs', _, rfl, hp', T.clHC, T.nNe, m5, rfl, k⟩
theorem ok_is_silent (T : Txt K mg) : FnR P w K mg base CX0 6 T.a_is_silent (fun vs H Q E => ∃ ws rest, vs = ws ++ rest ∧ ws.length = ["self"].length ∧ rest.length ≤ sizeLine ∧ ∀ p, H p = Option.none → sp_is_silent K T.C T.HC (ws ++ [V.ref p]) (upd H p (.tup rest)) Q E) := by
  obtain ⟨oc, od, kV, doc, pm, an, cdv, ct, osl, e, lk, hcd⟩ := T.F_is_silent.ex
  rw [e] at lk
  refine StX.fn_star (k := 5) (ps := ["self"]) lk hcd sc_is_silent StX.cxUp_none (StX.bind_star1 (B := fun us => bindArgs (PySem.W.fnOf "is_silent" "House.is_silent" (defArgs s_is_silent) (defBody s_is_silent) (defScope s_is_silent) .none kV doc pm an cdv ct) ⟨us, []⟩) (p1 := "self") (pv := "faults") (fun _ => by with_unfolding_all rfl) (fun _ _ _ => by with_unfolding_all rfl)) (fun A outer s H vs Q E hr h => ?_)
  obtain ⟨p, q, h, fs, rfl, a, hl, hf, fo, k⟩ := h
  obtain ⟨dx, fs2, q2, hp, l1, l2, l3, l4, l5, l6, l7, l8, r⟩ := id a
  obtain ⟨dx3, fs3, y3, hq3, m1, m2, m3, m4, t3⟩ := id r
  refine ⟨_, (pss_one (ps_ret (pe_cmpR op_lt (pe_callB call_len_seq (by rfl) T.z_len PySem.boot_len (pa_cons (pe_meth (pe_fld (pv 0) rfl) T.clC T.m_reached (ok_reached T) (hr.mono (by decide)) T.b_reached .nil Mk1.passF (pa_cons (pv 1) pa_nil)) pa_nil)) (pe_fld (pv 0) rfl) (nomark _)))), ?_⟩
  refine ⟨_, rfl, p, T.HC, dx, fs2, _, rfl, hp, T.clHC, T.nLa, l6, q2, dx3, fs3, rfl, hq3, no_meth "reached" (by decide +kernel) (by decide +kernel) (by decide +kernel) m4, _, rfl, q2, q, h.l, rfl, r, hl, .inl ⟨fs, hf, fo, fun H' u s1 hu0 hu => ?_⟩⟩
  refine ⟨u, _, rfl, .inr (SqT.of hu), _, rfl, p, T.HC, dx, fs2, _, rfl, s1 _ _ hp, T.clHC, T.nNe, l5, _, _, rfl, rfl, ?_⟩
  have e : decide ((((nV (heardL h.l (opn h.l fs))).length : Nat) : Int) < ((h.n : Nat) : Int)) = sil h.l h.n fs := by
    unfold sil nV
    rw [List.length_map]
    by_cases c : (heardL h.l (opn h.l fs)).length < h.n
    · rw [decide_eq_true c, decide_eq_true (by omega)]
    · rw [decide_eq_false c, decide_eq_false (by omega)]
  show Q (.bl (decide ((((nV (heardL h.l (opn h.l fs))).length : Nat) : Int) < ((h.n : Nat) : Int)))) H'
  rw [e]
  exact k _ s1
end
end K51

namespace K51
open PySem L2 Wm TL Dv Rm Lo Gtl
section
variable {P : Program} {w : World} {K : PySem.W.Frag} {mg : Str → Option Value} {base : Heap}
/-- a comprehension that picks and makes data -/
theorem lc_sel {α : Type} {J : It} {n : Nat} {G : Hp → Prop} {xs : List V} {fts : List α} {dat out : α → PyData} (w : Walk J n G (YAt xs)) {g : TG} {tt : TT} {te : TE} {vs : List Nat} {σ : L2.St} {H1 : Hp} {D : Addr} {Qd : Hp → Prop} (P : α → Bool)
    (hx : Dts K H1 xs (fts.map dat)) (ln : n = fts.length) (hD : H1 D = none) (hn : n ≤ 1000) (hG : ∀ H', Same H1 H' → G H')
    (hs : ∀ (i : Nat) x f H', xs[i]? = some x → fts[i]? = some f → Dt K H1 x (dat f) → Same H1 H' → ∀ (Q : V → Hp → Prop) (Z : Hp → Prop), (P f = true → ∀ y H3, Same H' H3 → Dt K H3 y (out f) → Q y H3) → (P f = false → ∀ H3, Same H' H3 → Z H3) → g x (wipe σ vs) H' fun σ2 H2 => wipe σ2 vs = wipe σ vs ∧ tt σ2 H2 fun b H3 => if b = true then te σ2 H3 Q else Z H3)
    (hd : ∀ H ys, Same H1 H → H D = some (.lst ys) → Dts K H ys ((fts.filter P).map out) → Qd H) :
    ∃ W : Nat → Nat → Hp → Prop, (∃ m, W 0 m (upd H1 D (.lst []))) ∧ ∀ i m H, W i m H →
      (J.stop i H ∧ Qd H) ∨ (J.go i H ∧ ∃ Nx : Hp → Prop, (∀ H', Nx H' → ∃ m', m' < m ∧ W (i + 1) m' H') ∧ ∀ x H', J.yld i H x H' → g x (wipe σ vs) H' fun σ2 H2 => wipe σ2 vs = wipe σ vs ∧ tt σ2 H2 fun b H3 =>
        if b = true then te σ2 H3 fun y H4 => ∃ acc, H4 D = some (.lst acc) ∧ acc.length < sizeLine ∧ Nx (upd H4 D (.lst (acc ++ [y]))) else Nx H3) := by
  refine lc_it (tt := tt) w (fun i H => Same H1 H ∧ ∃ ys : List V, ys.length ≤ i ∧ H D = some (.lst ys) ∧ Dts K H ys (((fts.take i).filter P).map out)) ⟨same_new hD, [], Nat.le_refl _, upd_same, .nil⟩ (fun i H _ h => hG H h.1) (fun i x H H' hi hP hY => ?_) (fun H hP => ?_)
  · obtain ⟨sm, ys, el, hy, he⟩ := hP
    obtain ⟨rfl, hxi⟩ := hY
    obtain ⟨d, hdi, dx⟩ := hx.at hxi
    rw [List.getElem?_map] at hdi
    obtain ⟨f, hf, rfl⟩ := Option.map_eq_some_iff.mp hdi
    have et : fts.take (i + 1) = fts.take i ++ [f] := by rw [List.take_add_one, hf]; rfl
    refine hs i x f H' hxi hf dx sm _ _ (fun c y H4 s4 dy => ?_) (fun c H4 s4 => ?_)
    · have k5 : Kt K H4 (upd H4 D (.lst (ys ++ [y]))) := Kt.lst (s4 _ _ hy)
      refine ⟨ys, s4 _ _ hy, small1000 (by omega), same_mut (sm.trans s4) hD, ys ++ [y], by rw [List.length_append, List.length_singleton]; omega, upd_same, ?_⟩
      rw [et, List.filter_append, List.map_append, List.filter_cons_of_pos c]
      exact ((he.k (Kt.same s4)).k k5).snoc (dy.k k5)
    · refine ⟨sm.trans s4, ys, by omega, s4 _ _ hy, ?_⟩
      rw [et, List.filter_append, List.filter_cons_of_neg (by rw [c]; exact Bool.false_ne_true), List.filter_nil, List.append_nil]
      exact he.k (Kt.same s4)
  · obtain ⟨sm, ys, el, hy, he⟩ := hP
    rw [ln, List.take_length] at he
    exact hd H ys sm hy he
theorem allF_le {n : Nat} (h : n ≤ 10) : (allF (n + 1)).length ≤ 22 := by rw [allF_len]; omega
theorem hn_meth (m : Str) {fs : List (Str × V)} (l : ∀ m : Str, m ≠ "box" → m ≠ "ring" → m ≠ "mark" → m ≠ "rows" → m ≠ "need" → m ≠ "layout" → m ≠ "seekers" → fs.lookup m = none) (d : (["box", "ring", "mark", "rows", "need", "layout", "seekers"] : List Str).all (fun x => !decide (m = x)) = true) : fs.lookup m = none := by
  simp only [List.all_cons, List.all_nil, Bool.and_true, Bool.and_eq_true, Bool.not_eq_true', decide_eq_false_iff_not] at d
  obtain ⟨a, b, c, e, f, g, h⟩ := d
  exact l m a b c e f g h
/-- a star's tuple of faults -/
theorem star_fts {H : Hp} {xs : List V} {fs : List Ft} (h : Dts K H xs (fs.map ftD)) {u : Addr} (hu : H u = none) : FtsAt K (upd H u (.tup xs)) u fs := ⟨true, xs, SqT.of upd_same, h.k (Kt.new hu)⟩
theorem ok_silent_faults (T : Txt K mg) : FnOk P w K mg base CX0 7 T.a_silent_faults T.d_silent_faults ["self"] (sp_silent_faults K T.C T.HC) := by
  refine T.F_silent_faults.ok sc_silent_faults (fun vs H Q E h => ?_) (fun cdv A outer s H vs Q E hr h => ?_)
  · obtain ⟨p, h, rfl, _⟩ := h
    rfl
  · obtain ⟨p, h, rfl, a, hl, k⟩ := h
    obtain ⟨dx', fs2, q2, hp, l1, l2, l3, l4, l5, l6, l7, l8, r⟩ := id a
    obtain ⟨dx3, fs3, y3, hq3, m1, m2, m3, m4, t3⟩ := id r
    refine ⟨_, (pss_one (ps_ret (pe_callTy call_tuple_of (by rfl) T.z_tuple (by decide +kernel) (pa_cons (pe_lc (own := [("fault", 1)]) (g := gName 1) rfl sc_silent_faults.nd (pi_tup (pe_meth0 (pe_fld (pv 0) rfl) T.clC T.m_all_faults (ok_all_faults T) (hr.mono (by decide)) T.b_all_faults .nil pass0)) (blkOk_by (own := [("fault", 1)]) (N := nm_silent_faults) (sc := (defScope s_silent_faults)) (by decide +kernel)) (fun _ _ _ _ _ => pg_name (i := 1) sc_silent_faults.nd rfl (Or.inl rfl)) (fun _ _ _ _ _ => (pts_one (pt_val (pe_methR (pv 0) T.clHC T.m_is_silent (ok_is_silent T) (hr.mono (by decide)) pass0 (pa_cons (pv 1) pa_nil))))) (fun _ _ _ _ _ => (pv 1))) pa_nil)))), ?_⟩
    refine ⟨_, rfl, p, T.HC, dx', fs2, _, rfl, hp, T.clHC, T.nLa, l6, q2, dx3, fs3, rfl, hq3, no_meth "all_faults" (by decide +kernel) (by decide +kernel) (by decide +kernel) m4, q2, h.l, rfl, r, hl, fun H1 y s1 ty => ?_⟩
    obtain ⟨a1, xs, rfl, hS, hds⟩ := ty.inv
    have lx := hds.len
    rw [List.length_map] at lx
    have l22 := allF_le hl
    refine ⟨a1, rfl, ⟨_, hS⟩, fun D hD => ?_⟩
    refine lc_sel (K := K) walk_tup (fun f => sil h.l h.n [f]) (out := ftD) hds lx hD (by omega) (fun H' s => sameT s hS) (fun i x f H' hx hf dx sm Q2 Z q z0 => ?_) (fun H2 ys s2 hy hys => ?_)
    · have af := allF_mem.mp (List.mem_of_getElem? hf)
      refine ⟨rfl, ?_⟩
      have s0 := s1.trans sm
      refine ⟨_, rfl, p, dx', fs2, rfl, s0 _ _ hp, hn_meth "is_silent" l8 (by decide +kernel), _, rfl, [.ref p], [x], rfl, rfl, by show 1 ≤ sizeLine; exact small_len (by omega), fun u hu => ?_⟩
      have su := same_new (o := .tup [x]) hu
      have hf1 : Dts K H' [x] ([f].map ftD) := .cons (dx.k (Kt.same sm)) .nil
      refine ⟨p, u, h, [f], rfl, a.keep (s0.trans su), hl, star_fts hf1 hu, ⟨by simp, fun y m => by rw [List.mem_singleton.mp m]; omega⟩, fun H5 s5 => ⟨sil h.l h.n [f], rfl, ?_⟩⟩
      have s6 := su.trans s5
      cases c : sil h.l h.n [f] with
      | true => exact ⟨_, rfl, q c _ _ s6 (dx.k (Kt.same (sm.trans s6)))⟩
      | false => exact z0 c _ s6
    · refine ⟨D, ys, rfl, .inl ⟨SqL.of hy, fun u hu => ?_⟩⟩
      exact k _ u ((s1.trans s2).trans (same_new hu)) (dt_tup upd_same (hys.k (Kt.new hu)))
end
end K51

namespace K51
open PySem L2 Wm TL Dv Rm Lo Gtl
section
variable {P : Program} {w : World} {K : PySem.W.Frag} {mg : Str → Option Value} {base : Heap}
theorem eqv_ftd (f g : Ft) : PyData.eqv (ftD f) (ftD g) = decide (f = g) := by
  obtain ⟨a, x⟩ := f
  obtain ⟨b, y⟩ := g
  have e1 : (("cut" : Str) == ("short" : Str)) = false := by decide +kernel
  have e2 : (("short" : Str) == ("cut" : Str)) = false := by decide +kernel
  by_cases c : x = y
  · subst c
    cases a <;> cases b <;> simp [ftD, wdS, PyData.eqv, PyData.eqvAll, e1, e2]
  · have c2 : ¬ ((x : Nat) : Int) = ((y : Nat) : Int) := fun z => c (by omega)
    cases a <;> cases b <;> simp [ftD, wdS, PyData.eqv, PyData.eqvAll, e1, e2, c, c2]
theorem fine_ft (f : Ft) {n : Nat} : Fine (n + 1) (ftD f) := fine_tup fun d m => by
  rcases List.mem_cons.mp m with rfl | m
  · cases f.1
    all_goals exact fine_str (by decide +kernel)
  · rw [List.mem_singleton.mp m]
    exact fine_int _
theorem any_ft (ss : List Ft) (f : Ft) : (ss.map ftD).any (fun z => PyData.eqv z (ftD f)) = decide (f ∈ ss) := by
  induction ss with
  | nil => rfl
  | cons s ss ih =>
    rw [List.map_cons, List.any_cons, ih, eqv_ftd]
    by_cases c : s = f
    · subst c
      simp
    · have c2 : ¬ f = s := fun e => c e.symm
      simp [c, c2]
theorem lay_fts (ss : List Ft) : PyData.canLayAll0 (ss.map ftD) = true := by
  have q := (fine_tup (n := 1) (ds := ss.map ftD) fun d m => by
    obtain ⟨f, _, rfl⟩ := List.mem_map.mp m
    exact fine_ft f).1
  simpa only [PyData.canLay0] using q
theorem cut_from (xs : List V) (z : Nat) (h : z ≤ xs.length) : cutV xs (some (z : Int)) none = xs.drop z := by
  unfold cutV
  rw [HT.sIx_nat, HT.sIx_none, Nat.min_eq_left h, List.take_of_length_le (by rw [List.length_drop]; omega)]
theorem ok_least_lots (T : Txt K mg) : FnOk P w K mg base CX0 8 T.a_least_lots T.d_least_lots ["self"] (sp_least_lots K T.C T.HC) := by
  refine T.F_least_lots.ok sc_least_lots (fun vs H Q E h => ?_) (fun cdv A outer s H vs Q E hr h => ?_)
  · obtain ⟨p, h, rfl, _⟩ := h
    rfl
  · obtain ⟨p, h, rfl, a, hl, k⟩ := h
    obtain ⟨dx', fs2, q2, hp, l1, l2, l3, l4, l5, l6, l7, l8, r⟩ := id a
    obtain ⟨dx3, fs3, y3, hq3, m1, m2, m3, m4, t3⟩ := id r
    refine ⟨_, (pss_cons (ps_set (i := 1) sc_least_lots.nd rfl (Or.inr rfl) (pe_meth0 (pv 0) T.clHC T.m_silent_faults (ok_silent_faults T) (hr.mono (by decide)) T.b_silent_faults .nil pass0))
      (pss_cons (ps_setLc (i := 2) (own := [("fault", 3)]) (g := gName 3) rfl sc_least_lots.nd rfl rfl (sw_true rfl rfl rfl (by decide +kernel)) (pi_tup (pe_meth0 (pe_fld (pv 0) rfl) T.clC T.m_all_faults (ok_all_faults T) (hr.mono (by decide)) T.b_all_faults .nil pass0)) (blkOk_by (own := [("fault", 3)]) (N := nm_least_lots) (sc := (defScope s_least_lots)) (by decide +kernel)) (fun _ _ _ _ _ => pg_name (i := 3) sc_least_lots.nd rfl (Or.inl rfl)) (fun _ _ _ _ _ => (pts_one (pt_cmpR (show OpR _ _ (Ind.rNinS K) from Ind.op_ninS (Ind.room65 hr)) (pv 3) (pv 1) rfl))) (fun _ _ _ _ _ => (pv 3)))
      (pss_cons (ps_setLc (i := 4) (own := [("fault", 3)]) (g := gName 3) (tt := tYes) rfl sc_least_lots.nd rfl rfl (sw_true rfl rfl rfl (by decide +kernel)) (pi_tup (pv 1)) (blkOk_by (own := [("fault", 3)]) (N := nm_least_lots) (sc := (defScope s_least_lots)) (by decide +kernel)) (fun _ _ _ _ _ => pg_name (i := 3) sc_least_lots.nd rfl (Or.inl rfl)) (fun _ _ _ _ _ => pts_nil) (fun _ _ _ _ _ => (pe_tup (pa_cons (pv 3) pa_nil))))
      (pss_cons (ps_for PassesOwn.never rfl (pi_enum (by rfl) T.z_enumerate (pa_cons (pv 2) pa_nil)) (pg_tup rfl (pgs_cons (pg_name (i := 5) sc_least_lots.nd rfl (Or.inl rfl)) (pgs_cons (pg_name (i := 3) sc_least_lots.nd rfl (Or.inr rfl)) pgs_nil)))
        (pss_one (ps_expr (pe_bm PySem.F.plainAttrs_list PySem.F.slot_list_extend PySem.F.type_list_extend mt_extend (pv 4) (pa_cons (pe_lc (own := [("other", 6)]) (g := gName 6) rfl sc_least_lots.nd (pi_list (pe_slice sl_list (pv 2) (po_some (pe_op op_add (pv 5) pe_int)) po_none)) (blkOk_by (own := [("other", 6)]) (N := nm_least_lots) (sc := (defScope s_least_lots)) (by decide +kernel)) (fun _ _ _ _ _ => pg_name (i := 6) sc_least_lots.nd rfl (Or.inl rfl)) (fun _ _ _ _ _ => (pts_one (pt_val (pe_methR (pv 0) T.clHC T.m_is_silent (ok_is_silent T) (hr.mono (by decide)) pass0 (pa_cons (pv 3) (pa_cons (pv 6) pa_nil)))))) (fun _ _ _ _ _ => (pe_tup (pa_cons (pv 3) (pa_cons (pv 6) pa_nil))))) pa_nil)))))
      (pss_one (ps_ret (pe_callTy call_tuple_of (by rfl) T.z_tuple (by decide +kernel) (pa_cons (pv 4) pa_nil)))))))), ?_⟩
    refine ⟨_, rfl, p, dx', fs2, rfl, hp, hn_meth "silent_faults" l8 (by decide +kernel), p, h, rfl, a, hl, fun H1 u s1 du => ?_⟩
    refine ⟨_, rfl, p, T.HC, dx', fs2, _, rfl, s1 _ _ hp, T.clHC, T.nLa, l6, q2, dx3, fs3, rfl, s1 _ _ hq3, no_meth "all_faults" (by decide +kernel) (by decide +kernel) (by decide +kernel) m4, q2, h.l, rfl, r.keep s1, hl, fun H2 y s2 ty => ?_⟩
    have s02 := s1.trans s2
    have du2 := du.k (Kt.same s2)
    obtain ⟨a1, xs, rfl, hS, hds⟩ := ty.inv
    have lx := hds.len
    rw [List.length_map] at lx
    have l22 := allF_le hl
    refine ⟨a1, rfl, ⟨_, hS⟩, fun D hD => ?_⟩
    refine lc_sel (K := K) walk_tup (fun f => !decide (f ∈ singles h.l h.n)) (out := ftD) hds lx hD (by omega) (fun H' s => sameT s hS) (fun i x f H' hx hf dx sm Q2 Z q z0 => ?_) (fun H3 os s3 hos dos => ?_)
    · refine ⟨rfl, ?_⟩
      have du3 := du2.k (Kt.same sm)
      obtain ⟨u', us, e, hu, hus⟩ := du3.inv
      cases e
      refine ⟨_, rfl, _, rfl, ftD f, (singles h.l h.n).map ftD, true, (dx.k (Kt.same sm)).toDp, du3.toDp, (fine_ft f (n := 0)).1, Nat.le_trans (fine_ft f (n := 0)).2 (by decide), lay_fts _, ?_⟩
      rw [any_ft]
      refine ⟨_, rfl, ?_⟩
      cases c : decide (f ∈ singles h.l h.n) with
      | true => exact z0 (by rw [c]; rfl) _ (Same.refl _)
      | false => exact ⟨_, rfl, q (by rw [c]; rfl) _ _ (Same.refl _) (dx.k (Kt.same sm))⟩
    have dos : Dts K H3 os ((others h.l h.n).map ftD) := dos
    have du3 := du2.k (Kt.same s3)
    obtain ⟨u', us, e, hu, hus⟩ := du3.inv
    cases e
    have lu := hus.len
    rw [List.length_map] at lu
    have ls : (singles h.l h.n).length ≤ 22 := Nat.le_trans (List.length_filter_le _ _) l22
    have lo : (others h.l h.n).length ≤ 22 := Nat.le_trans (List.length_filter_le _ _) l22
    have los := dos.len
    rw [List.length_map] at los
    have s03 := s02.trans s3
    refine ⟨_, rfl, u, rfl, ⟨_, hu⟩, fun L hL => ?_⟩
    refine lc_sel (K := K) walk_tup (fun _ => true) (out := fun f => PyData.tuple [ftD f]) hus lu hL (by omega) (fun H' s => sameT s hu) (fun i x f H' hx hf dx sm Q2 Z q z0 => ?_) (fun H4 ls0 s4 hls dls => ?_)
    · refine ⟨rfl, yesT ?_⟩
      refine ⟨_, rfl, by show 1 ≤ sizeLine; exact small_len (by omega), fun t ht => ?_⟩
      have st := same_new (o := .tup [x]) ht
      exact q rfl _ _ st (dt_tup upd_same (.cons ((dx.k (Kt.same sm)).k (Kt.same st)) .nil))
    have efl : (singles h.l h.n).filter (fun _ => true) = singles h.l h.n := List.filter_eq_self.mpr fun _ _ => rfl
    rw [efl] at dls
    have hos4 := s4 _ _ hos
    have dos4 := dos.k (Kt.same s4)
    have s04 := s03.trans s4
    have Dn : D ≠ L := ne_of_none hos hL
    have hL0 : H L = none := s03.free hL
    have pn : p ≠ L := ne_of_none hp hL0
    refine ⟨_, rfl, D, os, rfl, SqL.of hos4, ?_⟩
    refine for_it walk_enum (fun i σ A => ∃ (lv : List V) (v3 v5 : Option V) (X : List (List Ft)), σ = [some (.ref p), some (.ref u), some (.ref D), v3, some (.ref L), v5, none] ∧ A L = some (.lst lv) ∧ (∀ q o, q ≠ L → H4 q = some o → A q = some o) ∧ Kt K H4 A ∧
      prs h.l h.n (others h.l h.n) = X ++ prs h.l h.n ((others h.l h.n).drop i) ∧ lv.length ≤ 22 + 22 * i ∧ Dts K A lv (((singles h.l h.n).map (fun f => [f]) ++ X).map fun lot => PyData.tuple (lot.map ftD)))
      ⟨ls0, none, none, [], rfl, hls, fun _ _ _ h => h, Kt.refl, by simp, by have := dls.len; rw [List.length_map] at this; omega, by rw [List.append_nil, List.map_map]; exact dls⟩ (fun i σ A _ h => let ⟨_, _, _, _, _, _, kp, _⟩ := h; SqL.of (kp _ _ Dn hos4)) (fun i z σ A A' hi hP hY => ?_) (fun σ A hP => ?_)
    · obtain ⟨lv, v3, v5, X, rfl, hAL, kp, kt, eX, ll, dl⟩ := hP
      obtain ⟨Tt, x, y, rfl, hT, rfl, hxi, hyi⟩ := hY
      cases Option.some.inj hxi
      have sA : Same H A := fun q o e => kp q o (ne_of_none e hL0) (s04 q o e)
      obtain ⟨d, hd, dy⟩ := dos.at hyi
      rw [List.getElem?_map] at hd
      obtain ⟨f, hf, rfl⟩ := Option.map_eq_some_iff.mp hd
      have sT := same_new (o := .tup [V.int ((i : Nat) : Int), y]) hT
      have hTt : SqT K (upd A Tt (.tup [V.int ((i : Nat) : Int), y])) Tt [V.int ((i : Nat) : Int), y] := SqT.of upd_same
      have hAL1 := sT _ _ hAL
      have hoA := sT _ _ (kp _ _ Dn hos4)
      have dyA := (dy.k (Kt.same s4)).k (kt.trans (Kt.same sT))
      have sA1 := sA.trans sT
      have dl1 := dl.k (Kt.same sT)
      have kt1 := kt.trans (Kt.same sT)
      have kp1 : ∀ q o, q ≠ L → H4 q = some o → upd A Tt (.tup [V.int ((i : Nat) : Int), y]) q = some o := fun q o n e => sT _ _ (kp q o n e)
      have dosA := dos4.k kt1
      generalize upd A Tt (.tup [V.int ((i : Nat) : Int), y]) = A1 at *
      refine ⟨Tt, _, rfl, hTt, rfl, _, _, rfl, _, _, rfl, rfl, ?_⟩
      refine ⟨_, rfl, .inl ⟨rfl, _, SqL.of hAL1⟩, _, rfl, _, rfl, _, _, rfl, rfl, _, rfl, D, _, rfl, SqL.of hoA, fun D3 hD3 => ?_⟩
      have hi' : i < (others h.l h.n).length := (List.getElem?_eq_some_iff.mp hf).1
      have dr : (others h.l h.n).drop i = f :: (others h.l h.n).drop (i + 1) := by
        rw [List.drop_eq_getElem_cons hi']
        congr 1
        have := List.getElem?_eq_getElem hi'
        rw [hf] at this
        exact (Option.some.inj this).symm
      rw [show ((i : Nat) : Int) + 1 = ((i + 1 : Nat) : Int) by omega, cut_from _ _ (by omega)]
      have s3' := same_new (o := .lst (os.drop (i + 1))) hD3
      have h3 : upd A1 D3 (.lst (os.drop (i + 1))) D3 = some (.lst (os.drop (i + 1))) := upd_same
      have dos3 : Dts K (upd A1 D3 (.lst (os.drop (i + 1)))) (os.drop (i + 1)) (((others h.l h.n).drop (i + 1)).map ftD) := by
        rw [List.map_drop]
        exact (dosA.drop _).k (Kt.same s3')
      generalize upd A1 D3 (.lst (os.drop (i + 1))) = A2 at *
      have sA2 := sA1.trans s3'
      have dyA2 := dyA.k (Kt.same s3')
      have ld : (os.drop (i + 1)).length = ((others h.l h.n).drop (i + 1)).length := by rw [List.length_drop, List.length_drop, los]
      refine ⟨D3, rfl, ⟨_, SqL.of h3⟩, fun D4 hD4 => ?_⟩
      refine lc_sel (K := K) walk_list (fun g => sil h.l h.n [f, g]) (out := fun g => PyData.tuple [ftD f, ftD g]) dos3 ld hD4 (by rw [List.length_drop]; omega) (fun H' s => SqL.of (s _ _ h3)) (fun j x g H' hx hg dx sm Q2 Z q z0 => ?_) (fun A3 ns s5 hns dns => ?_)
      · refine ⟨rfl, ?_⟩
        have s0 := sA2.trans sm
        have dxH := dx.k (Kt.same sm)
        have dyH := dyA2.k (Kt.same sm)
        refine ⟨_, rfl, p, dx', fs2, rfl, s0 _ _ hp, hn_meth "is_silent" l8 (by decide +kernel), _, rfl, _, rfl, [.ref p], [y, x], rfl, rfl, by show 2 ≤ sizeLine; exact small_len (by omega), fun w hw => ?_⟩
        have sw := same_new (o := .tup [y, x]) hw
        have hf1 : Dts K H' [y, x] ([f, g].map ftD) := .cons dyH (.cons dxH .nil)
        have m1 := allF_mem.mp (List.mem_filter.mp (List.mem_of_getElem? hf)).1
        have m2 := allF_mem.mp (List.mem_filter.mp (List.mem_of_mem_drop (List.mem_of_getElem? hg))).1
        refine ⟨p, w, h, [f, g], rfl, a.keep (s0.trans sw), hl, star_fts hf1 hw, ⟨by simp, fun y m => by
          rcases List.mem_cons.mp m with rfl | m
          · omega
          · rw [List.mem_singleton.mp m]; omega⟩, fun H5 s6 => ⟨sil h.l h.n [f, g], rfl, ?_⟩⟩
        have s7 := sw.trans s6
        cases c : sil h.l h.n [f, g] with
        | true =>
          refine ⟨_, rfl, _, rfl, by show 2 ≤ sizeLine; exact small_len (by omega), fun t ht => ?_⟩
          have st := same_new (o := .tup [y, x]) ht
          exact q c _ _ (s7.trans st) (dt_tup upd_same (.cons ((dyH.k (Kt.same s7)).k (Kt.same st)) (.cons ((dxH.k (Kt.same s7)).k (Kt.same st)) .nil)))
        | false => exact z0 c _ s7
      have s35 := s3'.trans s5
      have hAL3 := s35 _ _ hAL1
      have ln : ns.length ≤ 22 := by
        have := dns.len
        rw [List.length_map] at this
        rw [this]
        refine Nat.le_trans (List.length_filter_le _ _) ?_
        rw [List.length_drop]
        omega
      refine ⟨L, D4, lv, ns, rfl, rfl, hAL3, hns, small_len (by omega), ?_⟩
      have kL : Kt K A3 (upd A3 L (.lst (lv ++ ns))) := Kt.lst hAL3
      refine ⟨lv ++ ns, _, _, X ++ (((others h.l h.n).drop (i + 1)).filter fun g => sil h.l h.n [f, g]).map (fun g => [f, g]), rfl, upd_same, fun q o n e => by rw [upd_ne n]; exact s35 _ _ (kp1 q o n e), (kt1.trans (Kt.same s35)).trans kL, ?_, by rw [List.length_append]; omega, ?_⟩
      · rw [eX, dr, List.append_assoc]
        rfl
      · rw [← List.append_assoc, List.map_append]
        have e2 : (((((others h.l h.n).drop (i + 1)).filter fun g => sil h.l h.n [f, g]).map (fun g => [f, g])).map fun lot => PyData.tuple (lot.map ftD)) = (((others h.l h.n).drop (i + 1)).filter fun g => sil h.l h.n [f, g]).map fun g => PyData.tuple [ftD f, ftD g] := by rw [List.map_map]; rfl
        rw [e2]
        exact ((dl1.k (Kt.same s35)).k kL).app (dns.k kL)
    · obtain ⟨lv, v3, v5, X, rfl, hAL, kp, kt, eX, ll, dl⟩ := hP
      rw [los, List.drop_length] at eX
      have eX : prs h.l h.n (others h.l h.n) = X := by rw [eX]; exact List.append_nil X
      refine ⟨_, rfl, L, lv, rfl, .inl ⟨SqL.of hAL, fun w hw => ?_⟩⟩
      have sH : Same H A := fun q o e => kp q o (ne_of_none e hL0) (s04 q o e)
      rw [← eX] at dl
      exact k _ w (sH.trans (same_new hw)) (dt_tup upd_same (dl.k (Kt.new hw)))
end
end K51

namespace K51
open PySem L2 Wm TL Dv Rm Lo Gtl
section
variable {P : Program} {w : World} {K : PySem.W.Frag} {mg : Str → Option Value} {base : Heap}
theorem NoStr.ks {H H' : Hp} {x : V} (h : NoStr K H x) (s : Same H H') : NoStr K H' x := let ⟨T, a, b⟩ := h; ⟨T, fun H2 s2 => a H2 (s.trans s2), b⟩
theorem HI.ks {H H' : Hp} {x y a b c : V} {o : HOut} (h : HI K H x y a b c o) (s : Same H H') : HI K H' x y a b c o := by
  cases h with
  | box q => exact .box (q.imp id fun n => n.ks s)
  | ring N q => exact .ring N (q.imp id fun n => n.ks s)
  | mark N R t => exact .mark N R (t.k s)
  | rows N R t w => exact .rows N R (t.k s) w
  | need N R r1 r8 t w => exact .need N R r1 r8 (t.k s) w
  | ok g => exact .ok g
theorem ok_with_rules (T : Txt K mg) : FnOk P w K mg base (L2.CX P w) 7 T.a_with_rules T.d_with_rules ["self", "ring", "mark", "rows", "need"] (sp_with_rules K T.C T.HC T.CH) := by
  refine T.F_with_rules.ok sc_with_rules (fun vs H Q E h => ?_) (fun cdv A outer s H vs Q E hr h => ?_)
  · obtain ⟨p, h, rg, mk, rw, nd, o, rfl, _⟩ := h
    rfl
  · obtain ⟨p, h, rg, mk, rw, nd, o, rfl, a, hi, er⟩ := h
    obtain ⟨dx, fs, q, hp, l1, l2, l3, l4, l5, l6, l7, l8, r⟩ := id a
    refine ⟨_, (pss_one (ps_ret (pe_makeK T.mk_hinit (ok_hinit T) (hr.mono (by decide)) (by rfl) T.gHC T.kbH3 (Po.passL 5 rfl (takes_of rfl rfl rfl rfl)) (pa_cons (pe_fld (pv 0) rfl) (pa_cons (pe_ifExp (pt_cmpR op_isN (pv 1) pe_non (nomark _)) (pe_fld (pv 0) rfl) (pv 1)) pa_nil)) (pk_cons (pe_ifExp (pt_cmpR op_isN (pv 2) pe_non (nomark _)) (pe_fld (pv 0) rfl) (pv 2)) (pk_cons (pe_ifExp (pt_cmpR op_isN (pv 3) pe_non (nomark _)) (pe_fld (pv 0) rfl) (pv 3)) (pk_cons (pe_ifExp (pt_cmpR op_isN (pv 4) pe_non (nomark _)) (pe_fld (pv 0) rfl) (pv 4)) pk_nil)))))), ?_⟩
    refine ⟨_, rfl, p, T.HC, dx, fs, _, rfl, hp, T.clHC, T.nBo, l1, ?_⟩
    rcases rg with _ | rg
    all_goals first
      | refine ⟨_, rfl, rfl, _, rfl, iteT ⟨_, rfl, p, T.HC, dx, fs, _, rfl, hp, T.clHC, T.nRi, l2, ?_⟩⟩
      | refine ⟨_, rfl, rfl, _, rfl, iteF ⟨_, rfl, ?_⟩⟩
    all_goals rcases mk with _ | mk
    all_goals first
      | refine ⟨_, rfl, rfl, _, rfl, iteT ⟨_, rfl, p, T.HC, dx, fs, _, rfl, hp, T.clHC, T.nMa, l3, ?_⟩⟩
      | refine ⟨_, rfl, rfl, _, rfl, iteF ⟨_, rfl, ?_⟩⟩
    all_goals rcases rw with _ | rw
    all_goals first
      | refine ⟨_, rfl, rfl, _, rfl, iteT ⟨_, rfl, p, T.HC, dx, fs, _, rfl, hp, T.clHC, T.nRo, l4, ?_⟩⟩
      | refine ⟨_, rfl, rfl, _, rfl, iteF ⟨_, rfl, ?_⟩⟩
    all_goals rcases nd with _ | nd
    all_goals first
      | refine ⟨_, rfl, rfl, _, rfl, iteT ⟨_, rfl, p, T.HC, dx, fs, _, rfl, hp, T.clHC, T.nNe, l5, ?_⟩⟩
      | refine ⟨_, rfl, rfl, _, rfl, iteF ⟨_, rfl, ?_⟩⟩
    all_goals refine ⟨rfl, rfl, fun pA dy hpA hdy ne => ?_⟩
    all_goals have sm := made (C := T.HC) hpA hdy ne
    all_goals refine ⟨pA, dy, _, _, _, _, _, o, rfl, upd_same, hi.ks sm, ?_⟩
    all_goals cases o with
      | bad w => exact fun H' dd s e σ _ => er H' dd (sm.trans s) e
      | ok h2 => exact fun H' off hA => ⟨rfl, er _ _ (made_off hpA hdy ne off) hpA hA⟩
end
end K51

namespace K51
open PySem L2 Wm TL Dv Rm Lo Gtl
section
variable {P : Program} {w : World} {K : PySem.W.Frag} {mg : Str → Option Value} {base : Heap}
theorem dig_log {d : Nat} (h : 1 ≤ d ∧ d ≤ 9) : ((d : Int)).natAbs.log2 < 1920 := by
  rcases dig_cases h with e | e | e | e | e | e | e | e | e <;> subst e <;> decide +kernel
theorem sum_snoc (ds : List Nat) (d : Nat) : (ds ++ [d]).sum = ds.sum + d := by
  rw [List.sum_append]
  simp
theorem len_snoc (ds : List Nat) (d : Nat) : (ds ++ [d]).length = ds.length + 1 := by simp
theorem dig_snoc {ds : List Nat} {d : Nat} (h : ∀ y ∈ ds, 1 ≤ y ∧ y ≤ 9) (g : 1 ≤ d ∧ d ≤ 9) : ∀ y ∈ ds ++ [d], 1 ≤ y ∧ y ≤ 9 := fun y m => by
  rcases List.mem_append.mp m with m | m
  · exact h y m
  · rw [List.mem_singleton.mp m]
    exact g
theorem ok_number (T : Txt K mg) : FnOk P w K mg base CX0 2 T.a_number T.d_number ["_law_state"] (sp_number K) := by
  refine T.F_number.ok sc_number (fun vs H Q E h => ?_) (fun cdv A outer s H vs Q E hr h => ?_)
  · obtain ⟨b, n, rfl, _⟩ := h
    rfl
  · obtain ⟨b, n, rfl, hbag, hn, kk⟩ := h
    refine ⟨_, (pss_cons (ps_set (i := 1) sc_number.nd rfl (Or.inl rfl) pe_str)
      (pss_cons (ps_if (pt_cmpR op_gt (pe_call (ok_draw T) (hr.mono (by decide)) (by rfl) T.g_draw T.F_draw.kp T.b_draw .nil pass0 (pa_cons (pv 0) (pa_cons pe_int pa_nil))) pe_int (nomark _))
        (pss_cons (ps_for PassesOwn.never rfl (pi_range1 (by rfl) T.z_range (pa_cons (pe_op op_add pe_int (pe_call (ok_draw T) (hr.mono (by decide)) (by rfl) T.g_draw T.F_draw.kp T.b_draw .nil pass0 (pa_cons (pv 0) (pa_cons pe_int pa_nil)))) pa_nil)) (pg_name (i := 2) sc_number.nd rfl (Or.inl rfl))
          (pss_one (ps_set (i := 1) sc_number.nd rfl (Or.inl rfl) (pe_op op_add_str (pv 1) (pe_callTy call_str_int (by rfl) T.z_str (by decide +kernel) (pa_cons (pe_op op_add pe_int (pe_call (ok_draw T) (hr.mono (by decide)) (by rfl) T.g_draw T.F_draw.kp T.b_draw .nil pass0 (pa_cons (pv 0) (pa_cons pe_int pa_nil)))) pa_nil))))))
        (pss_one (ps_ret (pv 1))))
        pss_nil)
      (pss_cons (ps_set (i := 3) sc_number.nd rfl (Or.inl rfl) (pe_op op_add pe_int (pe_call (ok_draw T) (hr.mono (by decide)) (by rfl) T.g_draw T.F_draw.kp T.b_draw .nil pass0 (pa_cons (pv 0) (pa_cons pe_int pa_nil)))))
      (pss_cons (ps_set (i := 4) sc_number.nd rfl (Or.inl rfl) pe_int)
      (pss_cons (ps_for PassesOwn.never rfl (pi_range1 (by rfl) T.z_range (pa_cons (pv 3) pa_nil)) (pg_name (i := 2) sc_number.nd rfl (Or.inl rfl))
        (pss_cons (ps_set (i := 5) sc_number.nd rfl (Or.inl rfl) (pe_op op_add pe_int (pe_call (ok_draw T) (hr.mono (by decide)) (by rfl) T.g_draw T.F_draw.kp T.b_draw .nil pass0 (pa_cons (pv 0) (pa_cons (pe_callB (call_min2 rfl) (by rfl) T.z_min (by decide +kernel) (pa_cons pe_int (pa_cons (pe_op op_sub (pv 4) (pe_op op_sub (pe_op op_sub (pv 3) pe_int) (pv 2))) pa_nil))) pa_nil)))))
        (pss_cons (ps_set (i := 4) sc_number.nd rfl (Or.inl rfl) (pe_op op_sub (pv 4) (pv 5)))
        (pss_one (ps_set (i := 1) sc_number.nd rfl (Or.inl rfl) (pe_op op_add_str (pv 1) (pe_callTy call_str_int (by rfl) T.z_str (by decide +kernel) (pa_cons (pv 5) pa_nil))))))))
      (pss_one (ps_ret (pv 1)))))))), ?_⟩
    refine ⟨_, rfl, b, n, 6, rfl, by decide, by omega, hbag, by omega, fun H1 d1 g0 g1 bag1 but1 => ?_⟩
    refine ⟨_, _, rfl, rfl, _, rfl, ite2 (fun c0 => ?_) (fun c0 => ?_)⟩
    · refine ⟨_, rfl, b, n + 1, 3, rfl, by decide, by omega, bag1, by omega, fun H2 d2 w0 w1 bag2 but2 => ?_⟩
      refine ⟨_, _, rfl, rfl, _, rfl, by omega, by omega, ?_⟩
      have m1 : 1 ≤ (1 + d2).toNat ∧ (1 + d2).toNat ≤ 3 := by omega
      refine for_range (fun i σ H' => ∃ (ds : List Nat) (vk : Option V), σ = [some (.ref b), some (.str (numS ds)), vk, none, none, none] ∧
        ds.length = i ∧ (∀ d ∈ ds, 1 ≤ d ∧ d ≤ 9) ∧ ds.sum ≤ 3 * i ∧ Bg H' b (n + 2 + i) ∧ Bt b H H')
        ⟨[], none, by rw [numS_nil] <;> rfl, rfl, fun _ m => absurd m (List.not_mem_nil), by decide, bag2, but1.trans but2⟩ (fun i σ H' hi hP => ?_) (fun σ H' hP => ?_)
      · obtain ⟨ds, vk, rfl, el, hd, hs, bag, but⟩ := hP
        refine ⟨_, rfl, _, rfl, b, n + 2 + i, 3, rfl, by decide, by omega, bag, by omega, fun H3 g q0 q1 bag4 but4 => ?_⟩
        obtain ⟨d, ed, hd9, hd3⟩ : ∃ d : Nat, (1 : Int) + g = (d : Nat) ∧ (1 ≤ d ∧ d ≤ 9) ∧ d ≤ 3 := ⟨(1 + g).toNat, by omega, by omega, by omega⟩
        refine ⟨_, _, rfl, rfl, ?_⟩
        (try dsimp only; rw [ed])
        refine ⟨_, rfl, dig_log hd9, _, _, rfl, rfl, ?_, ?_⟩
        · rw [dig_str hd9, numS_len, numS_len]
          exact Nat.le_of_lt (small1000 (by show ds.length + 1 ≤ 1000; omega))
        rw [dig_str hd9, numS_app]
        exact ⟨ds ++ [d], _, rfl, by rw [len_snoc, el], dig_snoc hd hd9, by rw [sum_snoc]; omega, bag4, but.trans but4⟩
      · obtain ⟨ds, vk, rfl, el, hd, hs, bag, but⟩ := hP
        refine ⟨_, rfl, kk _ ds ⟨by omega, by omega, hd, by omega⟩ (bag.mono (by omega)) but⟩
    · refine ⟨_, rfl, b, n + 1, 4, rfl, by decide, by omega, bag1, by omega, fun H2 d2 w0 w1 bag2 but2 => ?_⟩
      refine ⟨_, _, rfl, rfl, ?_⟩
      obtain ⟨many, em⟩ : ∃ many : Nat, (1 : Int) + d2 = (many : Nat) := ⟨(1 + d2).toNat, by omega⟩
      (try dsimp only; rw [em])
      have m1 : 1 ≤ many := by omega
      have m4 : many ≤ 4 := by omega
      refine ⟨_, rfl, _, rfl, by omega, by omega, ?_⟩
      rw [Int.toNat_natCast]
      refine for_range (fun i σ H' => ∃ (ds : List Nat) (vk vd : Option V), σ = [some (.ref b), some (.str (numS ds)), vk, some (.int (many : Nat)), some (.int (24 - (ds.sum : Nat))), vd] ∧
        ds.length = i ∧ (∀ d ∈ ds, 1 ≤ d ∧ d ≤ 9) ∧ ds.sum + (many - i) ≤ 24 ∧ Bg H' b (n + 2 + i) ∧ Bt b H H')
        ⟨[], none, none, by rw [numS_nil] <;> rfl, rfl, fun _ m => absurd m (List.not_mem_nil), by show 0 + (many - 0) ≤ 24; omega, bag2, but1.trans but2⟩ (fun i σ H' hi hP => ?_) (fun σ H' hP => ?_)
      · obtain ⟨ds, vk, vd, rfl, el, hd, hs, bag, but⟩ := hP
        have eL : ((24 : Int) - (ds.sum : Nat)) - ((many : Nat) - 1 - (0 + (i : Nat))) = ((24 - ds.sum - (many - 1 - i) : Nat) : Int) := by omega
        refine ⟨_, rfl, _, rfl, _, rfl, _, _, rfl, rfl, _, rfl, _, _, rfl, rfl, _, _, rfl, rfl, _, _, rfl, ?_⟩
        (try dsimp only; rw [eL])
        generalize hlim : (if ((24 - ds.sum - (many - 1 - i) : Nat) : Int) < 9 then ((24 - ds.sum - (many - 1 - i) : Nat) : Int) else 9) = lim
        have lim1 : 1 ≤ lim ∧ lim ≤ 9 ∧ lim ≤ ((24 - ds.sum - (many - 1 - i) : Nat) : Int) := by
          rw [← hlim]
          split <;> omega
        refine ⟨b, n + 2 + i, lim, rfl, by omega, by omega, bag, by omega, fun H3 g q0 q1 bag4 but4 => ?_⟩
        refine ⟨_, _, rfl, rfl, ?_⟩
        obtain ⟨d, ed, hd9, hsum⟩ : ∃ d : Nat, (1 : Int) + g = (d : Nat) ∧ (1 ≤ d ∧ d ≤ 9) ∧ ds.sum + d + (many - 1 - i) ≤ 24 := ⟨(1 + g).toNat, by omega, by omega, by omega⟩
        (try dsimp only; rw [ed])
        refine ⟨_, rfl, _, rfl, _, _, rfl, rfl, ?_⟩
        have e3 : (24 : Int) - (ds.sum : Nat) - (d : Nat) = 24 - ((ds ++ [d]).sum : Nat) := by rw [sum_snoc]; omega
        (try dsimp only; rw [e3])
        refine ⟨_, rfl, _, rfl, _, rfl, dig_log hd9, _, _, rfl, rfl, ?_, ?_⟩
        · rw [dig_str hd9, numS_len, numS_len]
          exact Nat.le_of_lt (small1000 (by show ds.length + 1 ≤ 1000; omega))
        rw [dig_str hd9, numS_app]
        exact ⟨ds ++ [d], _, _, rfl, by rw [len_snoc, el], dig_snoc hd hd9, by rw [sum_snoc]; omega, bag4, but.trans but4⟩
      · obtain ⟨ds, vk, vd, rfl, el, hd, hs, bag, but⟩ := hP
        refine ⟨_, rfl, kk _ ds ⟨by omega, by omega, hd, by omega⟩ (bag.mono (by omega)) but⟩
end
end K51

namespace K51
open PySem L2 Wm TL Dv Rm Lo Gtl
section
variable {P : Program} {w : World} {K : PySem.W.Frag} {mg : Str → Option Value} {base : Heap}
theorem all_id' {α : Type} {g : α → Bool} (ds : List α) : (ds.map g).all id = ds.all g := by
  rw [List.all_map]
  rfl
theorem is_bools {α : Type} {g : α → Bool} {ys : List V} {ds : List α} (l : ys.length = ds.length) (h : ∀ (i : Nat) y, ys[i]? = some y → ∃ d, ds[i]? = some d ∧ y = .bl (g d)) : ys = (ds.map g).map V.bl := Lm.list_is (by rw [List.length_map, List.length_map]; exact l) fun i y e => by
  obtain ⟨d, hd, rfl⟩ := h i y e
  rw [List.getElem?_map, List.getElem?_map, hd]
  rfl
theorem ok_within (T : Txt K mg) : FnOk P w K mg base CX0 1 T.a_within T.d_within ["_law_lots_here", "_law_faults_here"] (sp_within K) := by
  refine T.F_within.ok sc_within (fun vs H Q E h => ?_) (fun cdv A outer s H vs Q E hr h => ?_)
  · obtain ⟨u, q, lts, fs, xs, rfl, _⟩ := h
    rfl
  · obtain ⟨u, q, lts, fs, xs, rfl, du, l2, hq, dfs, k⟩ := h
    refine ⟨_, (pss_cons (ps_for PassesOwn.never rfl (pi_tup (pv 0)) (pg_name (i := 2) sc_within.nd rfl (Or.inl rfl))
        (pss_one (ps_if (pt_val (pe_callB (cr_all rfl) (by rfl) T.z_all (by decide +kernel) (pa_cons (pe_lc (own := [("_law_fault", 3)]) (g := gName 3) (tt := tYes) rfl sc_within.nd (pi_tup (pv 2)) (blkOk_by (own := [("_law_fault", 3)]) (N := nm_within) (sc := (defScope s_within)) (by decide +kernel)) (fun _ _ _ _ _ => pg_name (i := 3) sc_within.nd rfl (Or.inl rfl)) (fun _ _ _ _ _ => pts_nil) (fun _ _ _ _ _ => (pe_cmpR (show OpR _ _ (Ind.rInS K) from Ind.op_inS (Ind.room65 hr)) (pv 3) (pv 1) rfl))) pa_nil)))
          (pss_one (ps_ret pe_bl))
          pss_nil)))
      (pss_one (ps_ret pe_bl))), ?_⟩
    obtain ⟨u', us, e, hu, hus⟩ := du.inv
    cases e
    have lu := hus.len
    rw [List.length_map] at lu
    refine ⟨_, rfl, u, rfl, ⟨_, hu⟩, ?_⟩
    refine for_it walk_tup (fun i σ A => ∃ v2, σ = [some (.ref u), some (.ref q), v2, none] ∧ Same H A ∧ ((lts.take i).any fun lot => lot.all fun f => decide (f ∈ fs)) = false) ⟨none, rfl, Same.refl _, rfl⟩ (fun i σ A _ h => let ⟨_, _, s, _⟩ := h; sameT s hu) (fun i x σ A A' hi hP hY => ?_) (fun σ A hP => ?_)
    · obtain ⟨v2, rfl, sm, no⟩ := hP
      obtain ⟨rfl, hx⟩ := hY
      obtain ⟨d, hd, dx⟩ := hus.at hx
      rw [List.getElem?_map] at hd
      obtain ⟨lot, hlot, rfl⟩ := Option.map_eq_some_iff.mp hd
      have ml := List.mem_of_getElem? hlot
      obtain ⟨a1, zs, rfl, hz, hzs⟩ := (dx.k (Kt.same sm)).inv
      have lz := hzs.len
      rw [List.length_map] at lz
      have ll := l2 lot ml
      refine ⟨_, rfl, a1, rfl, ⟨_, hz⟩, fun D hD => ?_⟩
      refine Lm.lc_map (K := K) walk_tup (fun j y _ => ∃ f, lot[j]? = some f ∧ y = .bl (decide (f ∈ fs))) (fun _ _ _ _ h _ => h) hD (by omega) (fun H' s => sameT s hz) (fun j y H' hj hy s2 Q2 Z q2 => ?_) (fun A2 ys s2 hy ly hR => ?_)
      · obtain ⟨e, he, dy⟩ := hzs.at hy
        rw [List.getElem?_map] at he
        obtain ⟨f, hf, rfl⟩ := Option.map_eq_some_iff.mp he
        have s02 := sm.trans s2
        refine ⟨rfl, yesT ?_⟩
        refine ⟨_, rfl, _, rfl, ftD f, fs.map ftD, false, (dy.k (Kt.same s2)).toDp, .lst (SqL.of (s02 _ _ hq)) (dfs.k (Kt.same s02)).toDp, (fine_ft f (n := 0)).1, Nat.le_trans (fine_ft f (n := 0)).2 (by decide), lay_fts _, ?_⟩
        rw [any_ft]
        exact q2 _ _ (Same.refl _) ⟨f, hf, rfl⟩
      · rw [is_bools (g := fun f => decide (f ∈ fs)) (by omega) hR] at hy
        have s02 := sm.trans s2
        refine ⟨D, _, rfl, SqL.of hy, _, rfl, ?_⟩
        rw [all_id']
        have et : lts.take (i + 1) = lts.take i ++ [lot] := by rw [List.take_add_one, hlot]; rfl
        cases c : lot.all fun f => decide (f ∈ fs) with
        | true =>
          refine iteT ?_
          have e : (lts.any fun lot => lot.all fun f => decide (f ∈ fs)) = true := List.any_eq_true.mpr ⟨lot, ml, c⟩
          have k := k _ s02
          rw [e] at k
          exact k
        | false =>
          refine iteF ⟨_, rfl, s02, ?_⟩
          rw [et, List.any_append, no, List.any_cons, c]
          rfl
    · obtain ⟨v2, rfl, sm, no⟩ := hP
      rw [lu, List.take_length] at no
      have k := k _ sm
      rw [no] at k
      exact k
end
end K51

namespace K51
open PySem L2 Wm TL Dv Rm Lo Gtl
section
variable {P : Program} {w : World} {K : PySem.W.Frag} {mg : Str → Option Value} {base : Heap}
theorem ok_silent (T : Txt K mg) : FnOk P w K mg base CX0 7 T.a_silent T.d_silent ["_law_house", "_law_faults_here"] (sp_silent K T.C T.HC) := by
  refine T.F_silent.ok sc_silent (fun vs H Q E h => ?_) (fun cdv A outer s H vs Q E hr h => ?_)
  · obtain ⟨p, q, h, fs, xs, rfl, _⟩ := h
    rfl
  · obtain ⟨p, q, h, fs, xs, rfl, a, hl, hq, dfs, l4, hb, k⟩ := h
    obtain ⟨dx, fs2, q2, hp, l1, l2, l3, l4', l5, l6, l7, l8, r⟩ := id a
    have nm := hn_meth "is_silent" l8 (by decide +kernel)
    have lx := dfs.len
    rw [List.length_map] at lx
    refine ⟨_, (pss_cons (ps_if (pt_cmpR op_eq (pe_callB call_len_seq (by rfl) T.z_len PySem.boot_len (pa_cons (pv 1) pa_nil)) pe_int (nomark _))
        (pss_one (ps_ret (pe_methR0 (pv 0) T.clHC T.m_is_silent (ok_is_silent T) (hr.mono (by decide)) pass0)))
        pss_nil)
      (pss_cons (ps_if (pt_cmpR op_eq (pe_callB call_len_seq (by rfl) T.z_len PySem.boot_len (pa_cons (pv 1) pa_nil)) pe_int (nomark _))
        (pss_one (ps_ret (pe_methR (pv 0) T.clHC T.m_is_silent (ok_is_silent T) (hr.mono (by decide)) pass0 (pa_cons (pe_ix ix_list (pv 1) pe_int (fun _ _ => rfl)) pa_nil))))
        pss_nil)
      (pss_cons (ps_if (pt_cmpR op_eq (pe_callB call_len_seq (by rfl) T.z_len PySem.boot_len (pa_cons (pv 1) pa_nil)) pe_int (nomark _))
        (pss_one (ps_ret (pe_methR (pv 0) T.clHC T.m_is_silent (ok_is_silent T) (hr.mono (by decide)) pass0 (pa_cons (pe_ix ix_list (pv 1) pe_int (fun _ _ => rfl)) (pa_cons (pe_ix ix_list (pv 1) pe_int (fun _ _ => rfl)) pa_nil)))))
        pss_nil)
      (pss_cons (ps_if (pt_cmpR op_eq (pe_callB call_len_seq (by rfl) T.z_len PySem.boot_len (pa_cons (pv 1) pa_nil)) pe_int (nomark _))
        (pss_one (ps_ret (pe_methR (pv 0) T.clHC T.m_is_silent (ok_is_silent T) (hr.mono (by decide)) pass0 (pa_cons (pe_ix ix_list (pv 1) pe_int (fun _ _ => rfl)) (pa_cons (pe_ix ix_list (pv 1) pe_int (fun _ _ => rfl)) (pa_cons (pe_ix ix_list (pv 1) pe_int (fun _ _ => rfl)) pa_nil))))))
        pss_nil)
      (pss_one (ps_ret (pe_methR (pv 0) T.clHC T.m_is_silent (ok_is_silent T) (hr.mono (by decide)) pass0 (pa_cons (pe_ix ix_list (pv 1) pe_int (fun _ _ => rfl)) (pa_cons (pe_ix ix_list (pv 1) pe_int (fun _ _ => rfl)) (pa_cons (pe_ix ix_list (pv 1) pe_int (fun _ _ => rfl)) (pa_cons (pe_ix ix_list (pv 1) pe_int (fun _ _ => rfl)) pa_nil))))))))))), ?_⟩
    have go : ∀ (ys : List V), ys = xs → ∀ u, H u = none → sp_is_silent K T.C T.HC ([V.ref p] ++ [V.ref u]) (upd H u (.tup ys)) Q (fun _ _ _ => False) := fun ys e u hu => by
      subst e
      exact ⟨p, u, h, fs, rfl, a.keep (same_new hu), hl, star_fts dfs hu, ⟨by omega, hb⟩, fun H' s => k _ ((same_new hu).trans s)⟩
    refine ⟨_, rfl, q, _, rfl, .inl (SqL.of hq), rfl, _, rfl, ite2 (fun c => ?_) (fun c0 => ?_)⟩
    · have e0 := V.int.inj (of_decide_eq_true c)
      have e : xs = [] := List.eq_nil_of_length_eq_zero (by omega)
      subst e
      exact ⟨_, rfl, p, dx, fs2, rfl, hp, nm, [.ref p], [], rfl, rfl, Nat.zero_le _, go [] rfl⟩
    refine ⟨_, rfl, q, _, rfl, .inl (SqL.of hq), rfl, _, rfl, ite2 (fun c => ?_) (fun c1 => ?_)⟩
    · have e0 := V.int.inj (of_decide_eq_true c)
      obtain ⟨x, rfl⟩ : ∃ x, xs = [x] := match xs, (show xs.length = 1 by omega) with | [x], _ => ⟨x, rfl⟩
      exact ⟨_, rfl, p, dx, fs2, rfl, hp, nm, _, rfl, q, _, 0, _, rfl, rfl, SqL.of hq, atI_nat (j := 0) rfl, [.ref p], [x], rfl, rfl, small_len (by simp), go _ rfl⟩
    refine ⟨_, rfl, q, _, rfl, .inl (SqL.of hq), rfl, _, rfl, ite2 (fun c => ?_) (fun c2 => ?_)⟩
    · have e0 := V.int.inj (of_decide_eq_true c)
      obtain ⟨x, y, rfl⟩ : ∃ x y, xs = [x, y] := match xs, (show xs.length = 2 by omega) with | [x, y], _ => ⟨x, y, rfl⟩
      exact ⟨_, rfl, p, dx, fs2, rfl, hp, nm, _, rfl, q, _, 0, _, rfl, rfl, SqL.of hq, atI_nat (j := 0) rfl, _, rfl, q, _, 1, _, rfl, rfl, SqL.of hq, atI_nat (j := 1) rfl, [.ref p], [x, y], rfl, rfl, small_len (by simp), go _ rfl⟩
    refine ⟨_, rfl, q, _, rfl, .inl (SqL.of hq), rfl, _, rfl, ite2 (fun c => ?_) (fun c3 => ?_)⟩
    · have e0 := V.int.inj (of_decide_eq_true c)
      obtain ⟨x, y, z, rfl⟩ : ∃ x y z, xs = [x, y, z] := match xs, (show xs.length = 3 by omega) with | [x, y, z], _ => ⟨x, y, z, rfl⟩
      exact ⟨_, rfl, p, dx, fs2, rfl, hp, nm, _, rfl, q, _, 0, _, rfl, rfl, SqL.of hq, atI_nat (j := 0) rfl, _, rfl, q, _, 1, _, rfl, rfl, SqL.of hq, atI_nat (j := 1) rfl, _, rfl, q, _, 2, _, rfl, rfl, SqL.of hq, atI_nat (j := 2) rfl, [.ref p], [x, y, z], rfl, rfl, small_len (by simp), go _ rfl⟩
    have n : ∀ {m : Nat}, ¬ decide (V.int ((xs.length : Nat) : Int) = V.int (m : Int)) = true → xs.length ≠ m := fun c e => c (decide_eq_true (by rw [e]))
    have n0 := n (m := 0) c0
    have n1 := n (m := 1) c1
    have n2 := n (m := 2) c2
    have n3 := n (m := 3) c3
    obtain ⟨x, y, z, w, rfl⟩ : ∃ x y z w, xs = [x, y, z, w] := match xs, (show xs.length = 4 by omega) with | [x, y, z, w], _ => ⟨x, y, z, w, rfl⟩
    exact ⟨_, rfl, p, dx, fs2, rfl, hp, nm, _, rfl, q, _, 0, _, rfl, rfl, SqL.of hq, atI_nat (j := 0) rfl, _, rfl, q, _, 1, _, rfl, rfl, SqL.of hq, atI_nat (j := 1) rfl, _, rfl, q, _, 2, _, rfl, rfl, SqL.of hq, atI_nat (j := 2) rfl, _, rfl, q, _, 3, _, rfl, rfl, SqL.of hq, atI_nat (j := 3) rfl, [.ref p], [x, y, z, w], rfl, rfl, small_len (by simp), go _ rfl⟩
theorem ok_order (T : Txt K mg) : FnOk P w K mg base CX0 1 T.a_order T.d_order ["_law_text_here", "_law_lot"] (sp_order K) := by
  refine T.F_order.ok sc_order (fun vs H Q E h => ?_) (fun cdv A outer s H vs Q E hr h => ?_)
  · obtain ⟨x, u, lot, rfl, _⟩ := h
    rfl
  · obtain ⟨x, u, lot, rfl, du, l10, ll, k⟩ := h
    refine ⟨_, (pss_one (ps_ret (pe_lc (own := [("_law_fault", 2)]) (g := gName 2) (tt := tYes) rfl sc_order.nd (pi_tup (pv 1)) (blkOk_by (own := [("_law_fault", 2)]) (N := nm_order) (sc := (defScope s_order)) (by decide +kernel)) (fun _ _ _ _ _ => pg_name (i := 2) sc_order.nd rfl (Or.inl rfl)) (fun _ _ _ _ _ => pts_nil) (fun _ _ _ _ _ => (pe_op op_add (pe_op op_mul pe_int (pe_ix (show IxR _ (rIxT K) from ix_tup) (pv 2) pe_int (fun _ _ => rfl))) (pe_callTy call_int1 (by rfl) T.z_int (by decide +kernel) (pa_cons (pe_cmpR op_eq (pe_ix (show IxR _ (rIxT K) from ix_tup) (pv 2) pe_int (fun _ _ => rfl)) pe_str (nomark _)) pa_nil))))))), ?_⟩
    obtain ⟨u', us, e, hu, hus⟩ := du.inv
    cases e
    have lu := hus.len
    rw [List.length_map] at lu
    refine ⟨_, rfl, u, rfl, ⟨_, hu⟩, fun D hD => ?_⟩
    refine Lm.lc_map (K := K) walk_tup (fun j y _ => (((lot.map ord).map V.int))[j]? = some y) (fun _ _ _ _ h _ => h) hD (by omega) (fun H' s => sameT s hu) (fun j y H' hj hy s2 Q2 Z q2 => ?_) (fun A2 ys s2 hy ly hR => ?_)
    · obtain ⟨e, he, dy⟩ := hus.at hy
      rw [List.getElem?_map] at he
      obtain ⟨f, hf, rfl⟩ := Option.map_eq_some_iff.mp he
      obtain ⟨q, zs, rfl, hS, hds⟩ := (dy.k (Kt.same s2)).inv
      cases hds with
      | cons a r => cases r with
        | cons b r =>
          cases r
          rw [a.str_inv, b.int_inv] at hS
          refine ⟨rfl, yesT ?_⟩
          refine ⟨_, rfl, q, _, 1, _, rfl, rfl, hS, atI_nat (j := 1) rfl, _, _, rfl, rfl, ?_⟩
          have f10 := l10 f (List.mem_of_getElem? hf)
          refine ⟨.inl ⟨by omega, by omega⟩, _, rfl, q, _, 0, _, rfl, rfl, hS, atI_nat (j := 0) rfl, rfl, .inr ⟨_, rfl, _, _, rfl, rfl, ?_⟩⟩
          have e : (2 : Int) * ((f.2 : Nat) : Int) + (if decide (V.str (wdS f.1) = V.str "short") = true then 1 else 0) = ord f := by
            unfold ord
            cases f.1
            · rfl
            · rw [decide_eq_false (by decide +kernel)]; rfl
          show Q2 (V.int ((2 : Int) * ((f.2 : Nat) : Int) + (if decide (V.str (wdS f.1) = V.str "short") = true then 1 else 0))) _
          rw [e]
          refine q2 _ _ (Same.refl _) ?_
          rw [List.getElem?_map, List.getElem?_map, hf]
          rfl
    · have ey : ys = (lot.map ord).map V.int := Lm.list_is (by rw [List.length_map, List.length_map]; omega) hR
      rw [ey] at hy
      exact k _ D s2 hy
end
end K51

namespace K51
open PySem L2 Wm TL Dv Rm Lo Gtl
section
variable {P : Program} {w : World} {K : PySem.W.Frag} {mg : Str → Option Value} {base : Heap}
theorem ok_made (T : Txt K mg) : FnOk P w K mg base CX0 8 T.a_made T.d_made ["_law_box", "_law_text_here", "_law_bar", "_law_steps", "_law_least"] (sp_made K T.C T.HC) := by
  refine T.F_made.ok sc_made (fun vs H Q E h => ?_) (fun cdv A outer s H vs Q E hr h => ?_)
  · obtain ⟨x, y, a, b, c, o, rfl, _⟩ := h
    rfl
  · obtain ⟨x, y, a, b, c, o, rfl, hi, kk⟩ := h
    refine ⟨_, (pss_cons (ps_set (i := 5) sc_made.nd rfl (Or.inl rfl) pe_str)
      (pss_cons (ps_set (i := 6) sc_made.nd rfl (Or.inl rfl) pe_non)
      (pss_cons (Ta.ps_try_ass (W := fun _ _ _ _ => False) rfl rfl sc_made.nd takes0 (fun U pn xe tk _ => (pss_one (ps_set (i := 6) sc_made.nd rfl (Or.inl rfl) (Kw.pe_makeKS T.mk_hinit (ok_hinit T) (hr.mono (by decide)) (by rfl) T.gHC T.kbH3 (fun σ => passAt tk σ) (pa_cons (pv 0) (pa_cons (pv 1) pa_nil)) (pk_cons (pv 2) (pk_cons (pv 3) (pk_cons (pv 4) pk_nil))))))) (Ta.Hds.cons (h := ⟨Value.ref T.CH, 7, _⟩) rfl rfl ⟨rfl, by decide, Or.inl T.lowH.gC⟩ (fun a oe cls d pn hz hf => (St2.pss_two (ps_set (i := 5) sc_made.nd rfl (Or.inl rfl) (pe_byLowH T.lowH hz hf (pv 7))) (ps_if (PW.pt (pw_or (pt_not (pt_val (pe_callB (Xe.call_isD T.xcR T.cliR hz hf) (by rfl) T.z_isinstance (by decide +kernel) (pa_cons (pv 7) (pa_cons (pe_glob (v := V.ref T.Wc) (by rfl) T.gWc rfl) pa_nil))))) (pw_or1 (pt_not (pt_val (pe_callB (Xe.call_isD T.xcR T.cliR hz hf) (by rfl) T.z_isinstance (by decide +kernel) (pa_cons (pv 7) (pa_cons (pe_bltn (v := V.ty "ValueError") (by rfl) T.z_ValueError (by decide +kernel) rfl) pa_nil)))))))) (pss_one (ps_set (i := 5) sc_made.nd rfl (Or.inl rfl) pe_str)) pss_nil) rfl)) Ta.Hds.nil))
      (pss_one (ps_ret (pe_tup (pa_cons (pv 5) (pa_cons (pv 6) pa_nil)))))))), ?_⟩
    refine ⟨_, rfl, _, rfl, _, rfl, _, rfl, _, rfl, rfl, rfl, fun pA dy hpA hdy ne => ?_⟩
    have sm := made (C := T.HC) hpA hdy ne
    refine ⟨pA, dy, x, y, a, b, c, o, rfl, upd_same, hi.ks sm, ?_⟩
    cases o with
    | bad w =>
      intro H' dd s e
      have s2 := sm.trans s
      refine ⟨true, T.lowH.te, fun _ a0 ha0 => ?_, fun z => Bool.noConfusion z⟩
      refine ⟨_, rfl, rfl, rfl, dd, _, rfl, e, ?_⟩
      refine ⟨_, rfl, .ref T.Wc, _, true, dd, _, rfl, rfl, rfl, e, (fun u r => r), T.kWR, ?_⟩
      refine ⟨true, rfl, iteF ⟨_, rfl, .ty "ValueError", _, true, dd, _, rfl, rfl, rfl, e, (fun u r => r), T.kVR, true, rfl, iteF ?_⟩⟩
      refine ⟨_, rfl, _, rfl, by show 2 ≤ sizeLine; decide, fun u hu => ?_⟩
      exact kk.2 _ u (s2.trans (same_new hu)) upd_same
    | ok h2 =>
      intro H' off hA
      refine ⟨rfl, _, rfl, _, rfl, by show 2 ≤ sizeLine; decide, fun u hu => ?_⟩
      have s1 := made_off hpA hdy ne off
      have sn := same_new (o := .tup [.str "", .ref pA]) hu
      exact kk _ u pA (s1.trans sn) hpA (hA.keep sn) upd_same
end
end K51

namespace K51
open PySem L2 Wm TL Dv Rm Lo Gtl
section
variable {P : Program} {w : World} {K : PySem.W.Frag} {mg : Str → Option Value} {base : Heap}
theorem ok_kept_out (T : Txt K mg) : FnOk P w K mg base CX0 10 T.a_kept_out T.d_kept_out ["_law_house"] (sp_kept_out K T.C T.HC) := by
  refine T.F_kept_out.ok sc_kept_out (fun vs H Q E h => ?_) (fun cdv A outer s H vs Q E hr h => ?_)
  · obtain ⟨p, h, rfl, _⟩ := h
    rfl
  · obtain ⟨p, h, rfl, hA, ok, kk⟩ := h
    obtain ⟨dx, fs, q, hp, l1, l2, l3, l4, l5, l6, l7, l8, r⟩ := id hA
    have nm := hn_meth "with_rules" l8 (by decide +kernel)
    refine ⟨_, (pss_cons (ps_set (i := 1) sc_kept_out.nd rfl (Or.inl rfl) (pe_lst pa_nil))
      (pss_cons (Ta.ps_try_ass (W := fun _ _ _ _ => False) rfl rfl sc_kept_out.nd takes0 (fun U pn xe tk _ => (pss_one (ps_expr (Kw.pe_methNS (pv 0) T.clHC T.m_with_rules (ok_with_rules T) (hr.mono (by decide)) T.kwWN (fun σ => passAt tk σ) (pk_cons pe_int pk_nil))))) (Ta.Hds.cons (h := ⟨Value.ref T.CH, 2, _⟩) rfl rfl ⟨rfl, by decide, Or.inl T.lowH.gC⟩ (fun a oe cls d pn hz hf => (pss_one (ps_expr (Kw.pe_bmQ (K := K) (r := fun k => tBM k _ _ _ _) (pe_bm PySem.F.plainAttrs_list PySem.F.slot_list_append PySem.F.type_list_append mt_append (pv 1) (pa_cons (pe_byLowH T.lowH hz hf (pv 2)) pa_nil)) rfl)))) Ta.Hds.nil))
      (pss_cons (Ta.ps_try_ass (W := fun _ _ _ _ => False) rfl rfl sc_kept_out.nd takes0 (fun U pn xe tk _ => (pss_one (ps_expr (Kw.pe_methNS (pv 0) T.clHC T.m_with_rules (ok_with_rules T) (hr.mono (by decide)) T.kwWGN (fun σ => passAt tk σ) (pk_cons pe_str (pk_cons pe_int pk_nil)))))) (Ta.Hds.cons (h := ⟨Value.ref T.CH, 2, _⟩) rfl rfl ⟨rfl, by decide, Or.inl T.lowH.gC⟩ (fun a oe cls d pn hz hf => (pss_one (ps_expr (Kw.pe_bmQ (K := K) (r := fun k => tBM k _ _ _ _) (pe_bm PySem.F.plainAttrs_list PySem.F.slot_list_append PySem.F.type_list_append mt_append (pv 1) (pa_cons (pe_byLowH T.lowH hz hf (pv 2)) pa_nil)) rfl)))) Ta.Hds.nil))
      (pss_one (ps_ret (pe_cmpR (op_eqD hr.units) (pv 1) (pe_lst (pa_cons pe_str (pa_cons pe_str pa_nil))) (nomark _))))))), ?_⟩
    refine ⟨by decide, fun u hu => ?_⟩
    have s1 := same_new (o := .lst []) hu
    have put : ∀ {H2 : Hp} {o : HO}, Same H H2 → Same H (upd H2 u o) := fun s q o e => (upd_ne (ne_of_none e hu)).trans (s q o e)
    refine ⟨_, rfl, p, dx, fs, rfl, s1 _ _ hp, nm, rfl, p, h, none, none, none, some 0, .bad "need", rfl, hA.keep s1, .need ok.num ok.ri ok.r1 ok.r8 (.int 0) rfl, fun H2 dd s2 e2 => ?_⟩
    refine ⟨true, T.lowH.te, fun _ a0 ha0 => ?_, fun z => Bool.noConfusion z⟩
    have hu2 : H2 u = some (.lst []) := s2 _ _ upd_same
    refine ⟨_, rfl, (.inl ⟨rfl, _, SqL.of hu2⟩), _, rfl, rfl, rfl, dd, _, rfl, e2, u, [], _, rfl, rfl, hu2, by show 1 ≤ sizeLine; decide, ?_⟩
    have s3 := put (o := .lst [.str "need"]) (s1.trans s2)
    refine ⟨_, rfl, p, dx, fs, rfl, s3 _ _ hp, nm, rfl, p, h, some "", none, none, some 0, .bad "ring", rfl, hA.keep s3, .ring ok.num (.inl ⟨"", rfl, by decide, fun z => ?_⟩), fun H4 dd2 s4 e4 => ?_⟩
    · exact absurd z.2.1 (by decide +kernel)
    refine ⟨true, T.lowH.te, fun _ a1 ha1 => ?_, fun z => Bool.noConfusion z⟩
    have hu4 : H4 u = some (.lst [.str "need"]) := s4 _ _ upd_same
    refine ⟨_, rfl, (.inl ⟨rfl, _, SqL.of hu4⟩), _, rfl, rfl, rfl, dd2, _, rfl, e4, u, _, _, rfl, rfl, hu4, by show 2 ≤ sizeLine; decide, ?_⟩
    have s5 := put (o := .lst [.str "need", .str "ring"]) (s3.trans s4)
    refine ⟨_, rfl, by show 2 ≤ sizeLine; decide, fun v hv => ?_⟩
    have sn := same_new (o := .lst [.str "need", .str "ring"]) hv
    refine ⟨.list [.str "need", .str "ring"], .list [.str "need", .str "ring"], .lst (SqL.of (sn _ _ upd_same)) (.cons (.str _) (.cons (.str _) .nil)), .lst (SqL.of upd_same) (.cons (.str _) (.cons (.str _) .nil)), by decide +kernel, by decide +kernel, ?_⟩
    rw [show PyData.eqv (.list [.str "need", .str "ring"]) (.list [.str "need", .str "ring"]) = true by decide +kernel]
    exact kk _ (s5.trans sn)
end
end K51

namespace K51
open PySem L2 Wm TL Dv Rm Lo Gtl
section
variable {P : Program} {w : World} {K : PySem.W.Frag} {mg : Str → Option Value} {base : Heap}
theorem rg_all : ∀ n : Fin 11, ∀ s : Fin 11, 1 ≤ s.val → Builtin.Range.small 0 ((n.val : Nat) : Int) ((s.val : Nat) : Int) = true ∧ (((n.val + s.val - 1) / s.val : Nat) : Int) = Builtin.Range.rangeSize 0 ((n.val : Nat) : Int) ((s.val : Nat) : Int) ∧ (n.val + s.val - 1) / s.val ≤ 10 := by decide +kernel
theorem gl_all : ∀ n : Fin 11, ∀ k : Fin 11, 1 ≤ k.val → k.val < n.val → Txt.join "o" (grpS n.val (n.val - k.val)) = rgS (glS n.val k.val) ∧ ((grpS n.val (n.val - k.val)).map fun x => x.length).sum + (grpS n.val (n.val - k.val)).length ≤ 1000 ∧ (glS n.val k.val).length ≤ 100 := by decide +kernel
theorem s_rep (m : Nat) : (rgS (List.replicate m true)).length = m := by rw [rgS_len, List.length_replicate]
theorem ok_guarded_ring (T : Txt K mg) : FnOk P w K mg base (L2.CX P w) 3 T.a_guarded_ring T.d_guarded_ring ["seekers", "need"] (sp_guarded_ring K T.C T.HC T.CH) := by
  refine T.F_guarded_ring.okX sc_guarded_ring (fun vs H Q E h => ?_) (fun cdv A outer s H vs Q E hr h => ?_)
  · obtain ⟨x, y, rfl, _⟩ := h
    rfl
  · obtain ⟨x, y, rfl, h⟩ := h
    refine ⟨_, (pss_cons (ps_if (pt_not (pt_val (pe_call (ok_is_whole_within T) (hr.mono (by decide)) (by rfl) T.g_is_whole_within T.F_is_whole_within.kp T.b_is_whole_within .nil pass0 (pa_cons (pv 0) (pa_cons pe_int (pa_cons (pe_glob (v := V.int 10) rfl T.c_MOST_SIGNS ⟨_, rfl⟩) pa_nil))))))
        (pss_one (ps_raiseLowH rfl T.lowH hr (takes_of rfl rfl rfl rfl) (by exact (pa_cons pe_str pa_nil))))
        pss_nil)
      (pss_cons (ps_if (pt_not (pt_val (pe_call (ok_is_whole_within T) (hr.mono (by decide)) (by rfl) T.g_is_whole_within T.F_is_whole_within.kp T.b_is_whole_within .nil pass0 (pa_cons (pv 1) (pa_cons pe_int (pa_cons (pv 0) pa_nil))))))
        (pss_one (ps_raiseLowH rfl T.lowH hr (takes_of rfl rfl rfl rfl) (by exact (pa_cons pe_str pa_nil))))
        pss_nil)
      (pss_cons (ps_set (i := 2) sc_guarded_ring.nd rfl (Or.inr rfl) (pe_op op_sub (pv 0) (pv 1)))
      (pss_cons (ps_if (pt_cmpR op_eq (pv 2) pe_int (nomark _))
        (pss_one (ps_ret pe_non))
        pss_nil)
      (pss_cons (ps_set (i := 3) sc_guarded_ring.nd rfl (Or.inl rfl) (pe_join (pe_glob (v := V.str "o") rfl T.c_OPENER ⟨_, rfl⟩) (pe_lc (own := [("first", 4)]) (g := gName 4) (tt := tYes) rfl sc_guarded_ring.nd (pi_range3 (by rfl) T.z_range (pa_cons pe_int (pa_cons (pv 0) (pa_cons (pv 2) pa_nil)))) (blkOk_by (own := [("first", 4)]) (N := nm_guarded_ring) (sc := (defScope s_guarded_ring)) (by decide +kernel)) (fun _ _ _ _ _ => pg_name (i := 4) sc_guarded_ring.nd rfl (Or.inl rfl)) (fun _ _ _ _ _ => pts_nil) (fun _ _ _ _ _ => (pe_op Xe.op_mul1 (pe_glob (v := V.str "s") rfl T.c_SEEKER ⟨_, rfl⟩) (pe_callB (call_min2 rfl) (by rfl) T.z_min (by decide +kernel) (pa_cons (pv 2) (pa_cons (pe_op op_sub (pv 0) (pv 4)) pa_nil))))))))
      (pss_one (ps_ret (pe_ifExp (pt_cmpR op_le (pe_callB call_len_str (by rfl) T.z_len PySem.boot_len (pa_cons (pv 3) pa_nil)) (pe_glob (v := V.int 10) rfl T.c_MOST_SIGNS ⟨_, rfl⟩) (nomark _)) (pv 3) pe_non)))))))), ?_⟩
    rcases h with ⟨o, tx, w1, er⟩ | ⟨n, o, rfl, n1, n10, ty, w1, er⟩ | ⟨n, k, rfl, rfl, k1, kn, n10, kk⟩
    · refine ⟨_, rfl, x, o, 1, 10, rfl, tx, ?_⟩
      rw [w1]
      refine ⟨_, rfl, iteT ?_⟩
      exact ⟨_, rfl, fun dd hd => er _ dd (same_new hd) upd_same⟩
    · refine ⟨_, rfl, _, _, 1, 10, rfl, .int _, ?_⟩
      rw [show within 1 10 (some ((n : Nat) : Int)) = true by show (decide ((1 : Int) ≤ n) && decide ((n : Int) ≤ 10)) = true; rw [decide_eq_true (by omega), decide_eq_true (by omega)]; rfl]
      refine ⟨_, rfl, iteF ?_⟩
      refine ⟨_, rfl, _, rfl, y, o, 1, n, rfl, ty, ?_⟩
      rw [w1]
      refine ⟨_, rfl, iteT ?_⟩
      exact ⟨_, rfl, fun dd hd => er _ dd (same_new hd) upd_same⟩
    · refine ⟨_, rfl, _, _, 1, 10, rfl, .int _, ?_⟩
      rw [show within 1 10 (some ((n : Nat) : Int)) = true by show (decide ((1 : Int) ≤ n) && decide ((n : Int) ≤ 10)) = true; rw [decide_eq_true (by omega), decide_eq_true (by omega)]; rfl]
      refine ⟨_, rfl, iteF ?_⟩
      refine ⟨_, rfl, _, rfl, _, _, 1, n, rfl, .int _, ?_⟩
      rw [show within 1 (n : Nat) (some ((k : Nat) : Int)) = true by show (decide ((1 : Int) ≤ k) && decide ((k : Int) ≤ n)) = true; rw [decide_eq_true (by omega), decide_eq_true (by omega)]; rfl]
      refine ⟨_, rfl, iteF ?_⟩
      refine ⟨_, rfl, _, rfl, _, _, rfl, rfl, ?_⟩
      refine ⟨_, rfl, rfl, _, rfl, ite2 (fun c => ?_) (fun c => ?_)⟩
      · have e0 := V.int.inj (of_decide_eq_true c)
        have kk := kk _ (Same.refl _)
        rw [show glV n k = .non by unfold glV; rw [if_pos (by omega)]] at kk
        exact kk
      · have c0 : n ≠ k := fun e => c (decide_eq_true (by rw [e]; simp))
        obtain ⟨s, es, s1⟩ : ∃ s : Nat, s = n - k ∧ 1 ≤ s := ⟨n - k, rfl, by omega⟩
        have ec : ((n : Nat) : Int) - ((k : Nat) : Int) = ((s : Nat) : Int) := by omega
        obtain ⟨r1, r2, r3⟩ := rg_all ⟨n, by omega⟩ ⟨s, by omega⟩ s1
        obtain ⟨g1, g2, g3⟩ := gl_all ⟨n, by omega⟩ ⟨k, by omega⟩ k1 (by show k < n; omega)
        dsimp only at r1 r2 r3 g1 g2 g3
        rw [← es] at g1 g2
        refine ⟨⟨_, rfl⟩, _, rfl, _, rfl, 0, n, _, (n + s - 1) / s, rfl, by rw [ec]; exact ⟨by omega, by omega, r1, r2.symm⟩, fun D hD => ?_⟩
        refine lc_it walk_rangeC (fun t B => Same H B ∧ B D = some (.lst (((grpS n s).take t).map V.str))) ⟨same_new hD, upd_same⟩ (fun _ _ _ _ => trivial) (fun t v B B' ht hP hY => ?_) (fun B hP => ?_)
        · obtain ⟨sB, hB⟩ := hP
          obtain ⟨rfl, rfl⟩ := hY
          refine ⟨rfl, yesT ?_⟩
          have hm : (t + 1) * s ≤ n + s - 1 := (Nat.le_div_iff_mul_le (by omega)).mp (Nat.succ_le_of_lt ht)
          rw [Nat.add_mul, Nat.one_mul] at hm
          have ev : V.int (if (n : Int) - (0 + (t : Int) * ((n : Int) - (k : Nat))) < (n : Int) - (k : Nat) then (n : Int) - (0 + (t : Int) * ((n : Int) - (k : Nat))) else (n : Int) - (k : Nat)) = .int ((min s (n - t * s) : Nat) : Int) := by
            refine congrArg V.int ?_
            rw [ec, ← Int.natCast_mul]
            generalize t * s = z at hm ⊢
            split <;> omega
          refine ⟨_, rfl, _, rfl, _, rfl, _, _, rfl, rfl, _, _, rfl, 115, min s (n - t * s), rfl, ev, ?_, ?_, ?_⟩
          · generalize t * s = z at hm ⊢
            omega
          · omega
          refine ⟨_, hB, ?_, same_mut sB hD, ?_⟩
          · rw [List.length_map, List.length_take]
            exact Nat.lt_of_le_of_lt (Nat.min_le_left _ _) (Nat.lt_of_lt_of_le (show t < 5000 by omega) (by decide))
          rw [upd_same]
          have lg : (grpS n s).length = (n + s - 1) / s := by unfold grpS; rw [List.length_map, List.length_range]
          have gt : (grpS n s)[t]? = some (rgS (List.replicate (min s (n - t * s)) true)) := by
            unfold grpS
            rw [List.getElem?_map, List.getElem?_range ht]
            rfl
          rw [List.take_add_one, gt, List.map_append]
          have es : (⟨(List.replicate (min s (n - t * s)) 115).toArray⟩ : Str) = rgS (List.replicate (min s (n - t * s)) true) := by
            unfold rgS
            rw [List.map_replicate]
            rfl
          rw [es]
          rfl
        · obtain ⟨sB, hB⟩ := hP
          have lg : (grpS n s).length = (n + s - 1) / s := by unfold grpS; rw [List.length_map, List.length_range]
          rw [← lg, List.take_length] at hB
          refine ⟨_, D, _, rfl, rfl, .inl (SqL.of hB), by show _ + _ * 1 ≤ _; omega, ?_⟩
          rw [g1]
          refine ⟨_, rfl, ?_⟩
          have kk := kk _ sB
          unfold glV at kk
          rw [if_neg c0] at kk
          refine ⟨_, rfl, by rw [rgS_len]; exact Nat.le_trans g3 (by decide), _, _, rfl, rfl, _, rfl, ite2 (fun q => ?_) (fun q => ?_)⟩
          · have q := of_decide_eq_true q
            rw [rgS_len] at q
            rw [if_pos (by omega)] at kk
            exact ⟨_, rfl, kk⟩
          · have q : ¬ _ := fun z => q (decide_eq_true z)
            rw [rgS_len] at q
            rw [if_neg (by omega)] at kk
            exact kk
end
end K51

namespace K51
open PySem L2 Wm TL Dv Rm Lo Gtl
section
variable {P : Program} {w : World} {K : PySem.W.Frag} {mg : Str → Option Value} {base : Heap}
theorem gs_len : ∀ n : Fin 11, ∀ k : Fin 11, 1 ≤ k.val → k.val < n.val → (glS n.val k.val).length = n.val + ((n.val + (n.val - k.val) - 1) / (n.val - k.val) - 1) ∧ (glS n.val k.val).count true = n.val := by decide +kernel
theorem gs_sil : ∀ n : Fin 11, ∀ k : Fin 11, 1 ≤ k.val → k.val < n.val → (glS n.val k.val).length ≤ 10 → singles (glS n.val k.val) k.val = [] := by decide +kernel
end
end K51

namespace K51
open PySem L2 Wm TL Dv Rm Lo Gtl
section
variable {P : Program} {w : World} {K : PySem.W.Frag} {mg : Str → Option Value} {base : Heap}
theorem gs_sp : ∀ n : Fin 11, ∀ k : Fin 11, 1 ≤ k.val → k.val < n.val → (sp (glS n.val k.val)).length = n.val := by decide +kernel
theorem gs_cut : ∀ n : Fin 11, ∀ k : Fin 11, 1 ≤ k.val → k.val < n.val → cutV (((Rm.grp (glS n.val k.val)).map sS).map V.str) none (some (-1)) = List.replicate ((n.val + (n.val - k.val) - 1) / (n.val - k.val) - 1) (V.str (sS (n.val - k.val))) := by decide +kernel
theorem ok_guarded (T : Txt K mg) : FnOk P w K mg base CX0 9 T.a_guarded T.d_guarded ["_law_state"] (sp_guarded K T.C T.HC) := by
  refine T.F_guarded.ok sc_guarded (fun vs H Q E h => ?_) (fun cdv A outer s H vs Q E hr h => ?_)
  · obtain ⟨b, n, rfl, _⟩ := h
    rfl
  · obtain ⟨b, n, rfl, hbag, hn, kk⟩ := h
    refine ⟨_, (pss_cons (ps_set (i := 1) sc_guarded.nd rfl (Or.inl rfl) (pe_op op_add pe_int (pe_call (ok_draw T) (hr.mono (by decide)) (by rfl) T.g_draw T.F_draw.kp T.b_draw .nil pass0 (pa_cons (pv 0) (pa_cons pe_int pa_nil)))))
      (pss_cons (ps_set (i := 2) sc_guarded.nd rfl (Or.inl rfl) (pe_op op_add pe_int (pe_call (ok_draw T) (hr.mono (by decide)) (by rfl) T.g_draw T.F_draw.kp T.b_draw .nil pass0 (pa_cons (pv 0) (pa_cons (pv 1) pa_nil)))))
      (pss_cons (ps_set (i := 3) sc_guarded.nd rfl (Or.inl rfl) (pe_call (ok_guarded_ring T) (hr.mono (by decide)) (by rfl) T.g_guarded_ring T.F_guarded_ring.kp T.b_guarded_ring .nil Mk1.passF (pa_cons (pv 1) (pa_cons (pv 2) pa_nil))))
      (pss_cons (ps_set (i := 4) sc_guarded.nd rfl (Or.inr rfl) (pe_op op_sub (pv 1) (pv 2)))
      (pss_cons (ps_if (pt_cmpR op_eq (pv 4) pe_int (nomark _))
        (pss_one (ps_ret (pe_cmpR op_isN (pv 3) pe_non (nomark _))))
        pss_nil)
      (pss_cons (ps_set (i := 5) sc_guarded.nd rfl (Or.inl rfl) (pe_op op_sub (pe_op op_fdivW (pe_op op_sub (pe_op op_add (pv 1) (pv 4)) pe_int) (pv 4)) pe_int))
      (pss_cons (ps_if (pt_cmpR op_gt (pe_op op_add (pv 1) (pv 5)) pe_int (nomark _))
        (pss_one (ps_ret (pe_cmpR op_isN (pv 3) pe_non (nomark _))))
        pss_nil)
      (pss_cons (ps_if (PW.pt (pw_or (pt_not (pt_val (pe_callB call_isi (by rfl) T.z_isinstance (by decide +kernel) (pa_cons (pv 3) (pa_cons (pe_bltn (v := V.ty "str") (by rfl) T.z_str (by decide +kernel) rfl) pa_nil))))) (pw_or (pt_cmpR op_ne (pe_callB call_len_str (by rfl) T.z_len PySem.boot_len (pa_cons (pv 3) pa_nil)) (pe_op op_add (pv 1) (pv 5)) (nomark _)) (pw_or1 (pt_cmpR op_ne (pe_callB call_len_seq (by rfl) T.z_len PySem.boot_len (pa_cons (pe_call (ok_spots T) (hr.mono (by decide)) (by rfl) T.g_spots T.F_spots.kp T.b_spots .nil pass0 (pa_cons (pv 3) pa_nil)) pa_nil)) (pv 1) (nomark _))))))
        (pss_one (ps_ret pe_bl))
        pss_nil)
      (pss_cons (ps_if (pt_not (pt_val (pe_callB (cr_all rfl) (by rfl) T.z_all (by decide +kernel) (pa_cons (pe_lc (own := [("_law_zone_here", 6)]) (g := gName 6) (tt := tYes) rfl sc_guarded.nd (pi_list (pe_slice sl_list (pe_split (pv 3) pe_str) po_none (po_some (pe_un un_neg pe_int)))) (blkOk_by (own := [("_law_zone_here", 6)]) (N := nm_guarded) (sc := (defScope s_guarded)) (by decide +kernel)) (fun _ _ _ _ _ => pg_name (i := 6) sc_guarded.nd rfl (Or.inl rfl)) (fun _ _ _ _ _ => pts_nil) (fun _ _ _ _ _ => (pe_cmpR op_eq (pe_callB call_len_str (by rfl) T.z_len PySem.boot_len (pa_cons (pv 6) pa_nil)) (pv 4) (nomark _)))) pa_nil))))
        (pss_one (ps_ret pe_bl))
        pss_nil)
      (pss_one (ps_ret (pe_cmpR (op_eqD hr.units) (pe_meth0 (pe_makeK T.mk_hinit (ok_hinit T) (hr.mono (by decide)) (by rfl) T.gHC T.kbH3 Mk1.passF (pa_cons pe_str (pa_cons (pv 3) pa_nil)) (pk_cons pe_int (pk_cons pe_int (pk_cons (pv 2) pk_nil)))) T.clHC T.m_silent_faults (ok_silent_faults T) (hr.mono (by decide)) T.b_silent_faults .nil pass0) (pe_tup pa_nil) (nomark _))))))))))))), ?_⟩
    refine ⟨_, rfl, b, n, 10, rfl, by decide, by omega, hbag, by omega, fun H1 d1 g0 g1 bag1 but1 => ?_⟩
    refine ⟨_, _, rfl, rfl, ?_⟩
    obtain ⟨m, em, m1, m10⟩ : ∃ m : Nat, (1 : Int) + d1 = (m : Nat) ∧ 1 ≤ m ∧ m ≤ 10 := ⟨(1 + d1).toNat, by omega, by omega, by omega⟩
    (try dsimp only; rw [em])
    refine ⟨_, rfl, _, rfl, b, n + 1, m, rfl, by omega, by omega, bag1, by omega, fun H2 d2 w0 w1 bag2 but2 => ?_⟩
    refine ⟨_, _, rfl, rfl, ?_⟩
    obtain ⟨k, ek, k1, km⟩ : ∃ k : Nat, (1 : Int) + d2 = (k : Nat) ∧ 1 ≤ k ∧ k ≤ m := ⟨(1 + d2).toNat, by omega, by omega, by omega⟩
    (try dsimp only; rw [ek])
    have but := but1.trans but2
    have kkS : ∀ H', Same H2 H' → Q (.bl true) H' := fun H' s => kk H' (bag2.keep s) (but.trans (Bt.of s))
    refine ⟨_, rfl, _, rfl, _, _, rfl, .inr (.inr ⟨m, k, rfl, rfl, k1, km, m10, fun H3 s3 => ?_⟩)⟩
    refine ⟨_, rfl, _, rfl, _, _, rfl, rfl, ?_⟩
    refine ⟨_, rfl, rfl, _, rfl, ite2 (fun c => ?_) (fun c => ?_)⟩
    · have e0 := V.int.inj (of_decide_eq_true c)
      refine ⟨_, rfl, rfl, ?_⟩
      rw [show glV m k = .non by unfold glV; rw [if_pos (by omega)], decide_eq_true rfl]
      exact kkS _ s3
    have c0 : m ≠ k := fun e => c (decide_eq_true (by rw [e]; simp))
    obtain ⟨s, es, s1⟩ : ∃ s : Nat, s = m - k ∧ 1 ≤ s := ⟨m - k, rfl, by omega⟩
    have ec : ((m : Nat) : Int) - ((k : Nat) : Int) = ((s : Nat) : Int) := by omega
    have d1 : 1 ≤ (m + s - 1) / s := (Nat.le_div_iff_mul_le (by omega)).mpr (by omega)
    have eo : (((m : Nat) : Int) + (((m : Nat) : Int) - ((k : Nat) : Int)) - 1) / (((m : Nat) : Int) - ((k : Nat) : Int)) - 1 = (((m + s - 1) / s - 1 : Nat) : Int) := by
      rw [ec, show ((m : Nat) : Int) + ((s : Nat) : Int) - 1 = ((m + s - 1 : Nat) : Int) by omega, ← Int.natCast_ediv]
      omega
    obtain ⟨gl1, gl2⟩ := gs_len ⟨m, by omega⟩ ⟨k, by omega⟩ k1 (by show k < m; omega)
    dsimp only at gl1 gl2
    rw [← es] at gl1
    refine ⟨_, rfl, _, rfl, _, _, rfl, rfl, _, _, rfl, rfl, _, rfl, _, _, rfl, rfl, ?_, _, _, rfl, rfl, ?_⟩
    · refine ⟨by omega, ?_⟩
      rw [ec, Int.natAbs_natCast]
      exact Nat.lt_of_le_of_lt (Nat.log2_le_self s) (by omega)
    dsimp only
    rw [eo]
    refine ⟨_, rfl, _, rfl, _, _, rfl, rfl, _, _, rfl, rfl, _, rfl, ite2 (fun q => ?_) (fun q => ?_)⟩
    · have q := of_decide_eq_true q
      refine ⟨_, rfl, rfl, ?_⟩
      rw [show glV m k = .non by unfold glV; rw [if_neg c0, if_neg (by omega)], decide_eq_true rfl]
      exact kkS _ s3
    have q : ¬ _ := fun z => q (decide_eq_true z)
    have l10 : (glS m k).length ≤ 10 := by omega
    have sl := gs_sil ⟨m, by omega⟩ ⟨k, by omega⟩ k1 (by show k < m; omega) l10
    dsimp only at sl
    rw [show glV m k = .str (rgS (glS m k)) by unfold glV; rw [if_neg c0, if_pos l10]]
    refine ⟨_, rfl, _, _, _, _, true, rfl, .ty "str", .base (.str _), kit_ty (by decide +kernel), true, rfl, iteF ?_⟩
    refine ⟨_, rfl, _, rfl, by rw [rgS_len]; exact Nat.le_trans l10 (by decide), _, rfl, _, rfl, _, _, rfl, rfl, rfl, _, rfl, ite2 (fun z => ?_) (fun _ => ?_)⟩
    · exfalso
      rw [rgS_len, decide_eq_true (by congr 1; omega)] at z
      exact Bool.noConfusion z
    have spl := gs_sp ⟨m, by omega⟩ ⟨k, by omega⟩ k1 (by show k < m; omega)
    dsimp only at spl
    refine ⟨_, rfl, glS m k, rfl, l10, fun H4 r s4 hr hr4 => ?_⟩
    refine ⟨r, _, rfl, .inl (SqL.of hr4), _, rfl, rfl, _, rfl, ite2 (fun z => ?_) (fun _ => ?_)⟩
    · exfalso
      rw [nV_len, spl, decide_eq_true rfl] at z
      exact Bool.noConfusion z
    have s34 := s3.trans s4
    have gc := gs_cut ⟨m, by omega⟩ ⟨k, by omega⟩ k1 (by show k < m; omega)
    dsimp only at gc
    rw [← es] at gc
    refine ⟨_, rfl, ⟨_, rfl⟩, _, _, rfl, rfl, by decide +kernel, by rw [rgS_len]; exact Nat.le_trans (Nat.add_le_add_right l10 2) (by decide), fun p1 hp1 => ?_⟩
    refine ⟨_, rfl, _, rfl, p1, _, rfl, SqL.of upd_same, fun p2 hp2 => ?_⟩
    rw [split_o] at hp2 ⊢
    rw [gc]
    refine ⟨p2, rfl, ⟨_, SqL.of upd_same⟩, fun D hD => ?_⟩
    have s5 := s34.trans ((same_new (o := .lst (List.map V.str (List.map sS (Rm.grp (glS m k))))) hp1).trans (same_new (o := .lst (List.replicate ((m + s - 1) / s - 1) (V.str (sS s)))) hp2))
    refine Lm.lc_map (K := K) walk_list (fun i y _ => y = .bl true) (fun _ _ _ _ h _ => h) hD (by rw [List.length_replicate]; omega) (fun H' z => SqL.of (z _ _ upd_same)) (fun j y H' hj hy z2 Q2 Z q2 => ?_) (fun A2 ys z2 hy ly hR => ?_)
    · rw [List.getElem?_replicate] at hy
      split at hy
      · cases hy
        refine ⟨rfl, yesT ?_⟩
        refine ⟨_, rfl, _, rfl, by unfold sS; rw [rgS_len, List.length_replicate]; exact Nat.le_trans (show s ≤ 10 by omega) (by decide), _, rfl, rfl, ?_⟩
        refine q2 _ _ (Same.refl _) ?_
        rw [decide_eq_true]
        unfold sS
        rw [rgS_len, List.length_replicate, ec]
      · cases hy
    · have ry : ys = List.replicate ys.length (.bl true) := List.eq_replicate_iff.mpr ⟨rfl, fun v hv => let ⟨i, hi, e⟩ := List.getElem_of_mem hv; hR i v (by rw [List.getElem?_eq_getElem hi, e])⟩
      rw [show ys = (List.replicate ys.length true).map V.bl by rw [List.map_replicate]; exact ry] at hy
      refine ⟨D, _, rfl, SqL.of hy, _, rfl, ?_⟩
      rw [show (List.replicate ys.length true).all id = true by rw [List.all_eq_true]; intro z hz; rw [(List.mem_replicate.mp hz).2]; rfl]
      refine iteF ?_
      have s6 := s5.trans z2
      have gs_ri : Ri (glS m k) := ⟨l10, List.count_pos_iff.mp (by omega)⟩
      have n1 : Num [1] := ⟨by decide, by decide, by decide, by decide⟩
      have ok : HsOk ⟨[1], glS m k, 0, 1, k⟩ := ⟨n1, gs_ri, (by decide : (1 : Int) ≤ 1), (by decide : (1 : Int) ≤ 8), k1, by show k ≤ (glS m k).count true; omega⟩
      have hi : ∀ {A : Hp}, HI K A (.str "1") (.str (rgS (glS m k))) (.int 0) (.int 1) (.int (k : Nat)) (.ok ⟨[1], glS m k, 0, 1, k⟩) := fun {A} => by
        have z := HI.ok (K := K) (H := A) ok
        rw [show numS (Hs.ds ⟨[1], glS m k, 0, 1, k⟩) = ("1" : Str) from (by decide +kernel : numS [1] = ("1" : Str))] at z
        exact z
      refine ⟨_, rfl, _, rfl, rfl, rfl, fun pA dy hpA hdy ne => ?_⟩
      refine ⟨pA, dy, _, _, _, _, _, .ok ⟨[1], glS m k, 0, 1, k⟩, rfl, upd_same, hi, fun H' off hA => ⟨rfl, ?_⟩⟩
      have s7 := s6.trans (made_off hpA hdy ne off)
      obtain ⟨dx, fs, q0, hp, l1, l2, l3, l4, l5, l6, l7, l8, r0⟩ := id hA
      refine ⟨pA, dx, fs, rfl, hp, hn_meth "silent_faults" l8 (by decide +kernel), pA, ⟨[1], glS m k, 0, 1, k⟩, rfl, hA, l10, fun H8 u s8 du => ?_⟩
      rw [show singles (Hs.l ⟨[1], glS m k, 0, 1, k⟩) (Hs.n ⟨[1], glS m k, 0, 1, k⟩) = [] from sl] at du
      refine ⟨by decide, fun v hv => ?_⟩
      have s9 := same_new (o := .tup []) hv
      refine ⟨.tuple [], .tuple [], (du.k (Kt.same s9)).toDp, .tup (SqT.of upd_same) .nil, by decide +kernel, by decide +kernel, ?_⟩
      rw [show PyData.eqv (.tuple []) (.tuple []) = true by decide +kernel]
      exact kkS _ ((s7.trans s8).trans s9)
end
end K51

namespace K51
open PySem L2 Wm TL Dv Rm Lo Gtl
section
variable {P : Program} {w : World} {K : PySem.W.Frag} {mg : Str → Option Value} {base : Heap}
theorem eqH_iff {h g : Hs} : eqH h g = true ↔ numS h.ds = numS g.ds ∧ rgS h.l = rgS g.l ∧ h.m = g.m ∧ h.r = g.r ∧ h.n = g.n := by
  unfold eqH
  simp only [Bool.and_eq_true, decide_eq_true_eq]
  constructor
  · rintro ⟨a, b, c, d, e⟩
    exact ⟨V.str.inj a, V.str.inj b, V.int.inj c, V.int.inj d, Int.ofNat.inj (V.int.inj e)⟩
  · rintro ⟨a, b, c, d, e⟩
    rw [a, b, c, d, e]
    exact ⟨rfl, rfl, rfl, rfl, rfl⟩
theorem eqH_refl (h : Hs) : eqH h h = true := eqH_iff.mpr ⟨rfl, rfl, rfl, rfl, rfl⟩
theorem eqH_no {h g : Hs} (n : ¬ (numS h.ds = numS g.ds ∧ rgS h.l = rgS g.l ∧ h.m = g.m ∧ h.r = g.r ∧ h.n = g.n)) : eqH h g = false ∧ eqH g h = false := by
  constructor
  · cases c : eqH h g with
    | false => rfl
    | true => exact absurd (eqH_iff.mp c) n
  · cases c : eqH g h with
    | false => rfl
    | true =>
      obtain ⟨a, b, d, e, f⟩ := eqH_iff.mp c
      exact absurd ⟨a.symm, b.symm, d.symm, e.symm, f.symm⟩ n
theorem HouseAt.set {C HC : Addr} {H : Hp} {p D : Addr} {h : Hs} {xs : List V} {o : HO} (x : HouseAt K C HC H p h) (e : H D = some (.lst xs)) : HouseAt K C HC (upd H D o) p h := by
  obtain ⟨dx, fs, q, hp, l1, l2, l3, l4, l5, l6, l7, l8, r⟩ := x
  have n : p ≠ D := fun z => by rw [z, e] at hp; cases hp
  obtain ⟨dq, fq, y, hq, m⟩ := id r
  have nq : q ≠ D := fun z => by rw [z, e] at hq; cases hq
  exact ⟨dx, fs, q, by rw [upd_ne n]; exact hp, l1, l2, l3, l4, l5, l6, l7, l8, r.off nq (Kt.lst e) Off.set⟩
/-- a house unlike h -/
def Unl (K : PySem.W.Frag) (C HC : Addr) (H : Hp) (h : Hs) (x : V) : Prop := ∃ q g, x = .ref q ∧ HouseAt K C HC H q g ∧ HsOk g ∧ eqH h g = false ∧ eqH g h = false
theorem Unl.ks {C HC : Addr} {H H' : Hp} {h : Hs} {x : V} (u : Unl K C HC H h x) (s : Same H H') : Unl K C HC H' h x := let ⟨q, g, e, a, b, c, d⟩ := u; ⟨q, g, e, a.keep s, b, c, d⟩
theorem Unl.set {C HC : Addr} {H : Hp} {h : Hs} {x : V} {D : Addr} {xs : List V} {o : HO} (u : Unl K C HC H h x) (e : H D = some (.lst xs)) : Unl K C HC (upd H D o) h x := let ⟨q, g, e1, a, b, c, d⟩ := u; ⟨q, g, e1, a.set e, b, c, d⟩
theorem HouseAt.bt {C HC : Addr} {H H' : Hp} {p b : Addr} {n : Nat} {h : Hs} (x : HouseAt K C HC H p h) (bag : Bg H b n) (e : Bt b H H') : HouseAt K C HC H' p h := by
  obtain ⟨dx, fs, q, hp, l1, l2, l3, l4, l5, l6, l7, l8, r⟩ := x
  have nb : ∀ {a : Addr} {C d : Addr} {fs : List (Str × V)}, H a = some (.ins C d fs) → a ≠ b := fun h z => by
    obtain ⟨c, k, x, y, z', ns, h1, _⟩ := bag
    rw [z, h1] at h
    cases h
  obtain ⟨dq, fq, y, hq, m⟩ := id r
  exact ⟨dx, fs, q, e.keep _ _ (nb hp) hp, l1, l2, l3, l4, l5, l6, l7, l8, r.off (nb hq) (kt_bt bag e) e.keep⟩
end
end K51

namespace K51
open PySem L2 Wm TL Dv Rm Lo Gtl
section
variable {P : Program} {w : World} {K : PySem.W.Frag} {mg : Str → Option Value} {base : Heap}
theorem fine_list {n : Nat} {ds : List PyData} (h : ∀ d ∈ ds, Fine n d) : Fine (n + 1) (.list ds) := by
  have q := fine_tup h
  exact ⟨by simpa only [PyData.canLay0] using q.1, by simpa only [PyData.depth] using q.2⟩
theorem lotD_inv {H : Hp} {x : V} {lot : List Ft} (h : Dt K H x (lotD lot)) : ∃ a zs, x = .ref a ∧ SqT K H a zs ∧ Dts K H zs (lot.map ftD) ∧ zs.length = lot.length := by
  obtain ⟨a, zs, e, hz, hzs⟩ := h.inv
  have := hzs.len
  rw [List.length_map] at this
  exact ⟨a, zs, e, hz, hzs, this⟩
theorem fts_tup {H : Hp} {a : Addr} {zs : List V} {lot : List Ft} (hz : SqT K H a zs) (hzs : Dts K H zs (lot.map ftD)) : FtsAt K H a lot := ⟨true, zs, hz, hzs⟩
theorem heard_lt {l : List Bool} {n : Nat} {fs : List Ft} : decide ((((nV (heardL l (opn l fs))).length : Nat) : Int) < ((n : Nat) : Int)) = sil l n fs := by
  unfold sil nV
  rw [List.length_map]
  exact decide_eq_decide.mpr (by omega)
theorem ok_lots (T : Txt K mg) : FnOk P w K mg base CX0 5 T.a_lots T.d_lots ["_law_text_here", "_law_least", "_law_lots_here"] (sp_lots K) := by
  refine T.F_lots.ok sc_lots (fun vs H Q E h => ?_) (fun cdv A outer s H vs Q E hr h => ?_)
  · obtain ⟨u, l, n, rfl, _⟩ := h
    rfl
  · obtain ⟨u, l, n, rfl, hl, n1, hn, du, k⟩ := h
    refine ⟨_, (pss_cons (ps_if (PW.pt (pw_or (pt_not (pt_val (pe_callB call_isi (by rfl) T.z_isinstance (by decide +kernel) (pa_cons (pv 2) (pa_cons (pe_bltn (v := V.ty "tuple") (by rfl) T.z_tuple (by decide +kernel) rfl) pa_nil))))) (pw_or1 (pt_cmpR op_eq (pe_callB call_len_seq (by rfl) T.z_len PySem.boot_len (pa_cons (pv 2) pa_nil)) pe_int (nomark _)))))
        (pss_one (ps_ret pe_bl))
        pss_nil)
      (pss_cons (ps_set (i := 3) sc_lots.nd rfl (Or.inl rfl) (pe_lst (pa_cons pe_int pa_nil)))
      (pss_cons (ps_for PassesOwn.never rfl (pi_tup (pv 2)) (pg_name (i := 4) sc_lots.nd rfl (Or.inl rfl))
        (pss_cons (ps_if (PW.pt (pw_or (pt_not (pt_val (pe_callB call_isi (by rfl) T.z_isinstance (by decide +kernel) (pa_cons (pv 4) (pa_cons (pe_bltn (v := V.ty "tuple") (by rfl) T.z_tuple (by decide +kernel) rfl) pa_nil))))) (pw_or (pt_cmpR op_notIn_seq (pe_callB call_len_seq (by rfl) T.z_len PySem.boot_len (pa_cons (pv 4) pa_nil)) (pe_tup (pa_cons pe_int (pa_cons pe_int pa_nil))) rfl) (pw_or1 (pt_cmpR op_ge (pe_callB call_len_seq (by rfl) T.z_len PySem.boot_len (pa_cons (pe_call (ok_heard T) (hr.mono (by decide)) (by rfl) T.g_heard T.F_heard.kp T.b_heard .nil pass0 (pa_cons (pv 0) (pa_cons (pv 4) pa_nil))) pa_nil)) (pv 1) (nomark _))))))
          (pss_one (ps_ret pe_bl))
          pss_nil)
        (pss_cons (ps_set (i := 5) sc_lots.nd rfl (Or.inl rfl) (pe_call (ok_order T) (hr.mono (by decide)) (by rfl) T.g_order T.F_order.kp T.b_order .nil pass0 (pa_cons (pv 0) (pa_cons (pv 4) pa_nil))))
        (pss_cons (ps_if (PW.pt (pw_or (pt_not (pt_cmpR (Gtl.op_gtL (Nat.lt_of_le_of_lt (Nat.le_add_right _ 64) hr.units)) (pe_op op_cat (pe_lst (pa_cons (pe_callB call_len_seq (by rfl) T.z_len PySem.boot_len (pa_cons (pv 4) pa_nil)) pa_nil)) (pv 5)) (pv 3) (nomark _))) (pw_or1 (pt_cmpR (op_neD hr.units) (pv 5) (pe_callB cr_sortedI (by rfl) T.z_sorted (by decide +kernel) (pa_cons (pv 5) pa_nil)) (nomark _)))))
          (pss_one (ps_ret pe_bl))
          pss_nil)
        (pss_cons (ps_set (i := 3) sc_lots.nd rfl (Or.inl rfl) (pe_op op_cat (pe_lst (pa_cons (pe_callB call_len_seq (by rfl) T.z_len PySem.boot_len (pa_cons (pv 4) pa_nil)) pa_nil)) (pv 5)))
        (pss_one (ps_if (PW.pt (pw_and (pt_cmpR op_eq (pe_callB call_len_seq (by rfl) T.z_len PySem.boot_len (pa_cons (pv 4) pa_nil)) pe_int (nomark _)) (pw_and1 (pt_cmpR op_lt (pe_callB (cr_min (by rfl)) (by rfl) T.z_min (by decide +kernel) (pa_cons (pe_lc (own := [("_law_fault", 6)]) (g := gName 6) (tt := tYes) rfl sc_lots.nd (pi_tup (pv 4)) (blkOk_by (own := [("_law_fault", 6)]) (N := nm_lots) (sc := (defScope s_lots)) (by decide +kernel)) (fun _ _ _ _ _ => pg_name (i := 6) sc_lots.nd rfl (Or.inl rfl)) (fun _ _ _ _ _ => pts_nil) (fun _ _ _ _ _ => (pe_callB (show CallR _ _ (Kx.rLen K) from call_len_seq) (by rfl) T.z_len PySem.boot_len (pa_cons (pe_call (ok_heard T) (hr.mono (by decide)) (by rfl) T.g_heard T.F_heard.kp T.b_heard .nil pass0 (pa_cons (pv 0) (pa_cons (pe_tup (pa_cons (pv 6) pa_nil)) pa_nil))) pa_nil)))) pa_nil)) (pv 1) (nomark _)))))
          (pss_one (ps_ret pe_bl))
          pss_nil)))))))
      (pss_one (ps_ret pe_bl))))), ?_⟩
    obtain ⟨u', us, e, hu, hus⟩ := du.inv
    cases e
    have lu := hus.len
    rw [List.length_map] at lu
    have ne := lots_ne n1 hn
    have ll : 0 < (lots l n).length := List.length_pos_iff.mpr ne
    refine ⟨_, rfl, _, _, _, _, true, rfl, .ty "tuple", tyT hu, kit_ty (by decide +kernel), true, rfl, iteF ?_⟩
    refine ⟨_, rfl, u, _, rfl, .inr hu, rfl, _, rfl, ite2 (fun z => ?_) (fun _ => ?_)⟩
    · exfalso
      have := V.int.inj (of_decide_eq_true z)
      omega
    refine ⟨by decide, fun b0 hb0 => ?_⟩
    have s0 := same_new (o := .lst [.int 0]) hb0
    refine ⟨_, rfl, u, rfl, ⟨_, sameT s0 hu⟩, ?_⟩
    refine for_it walk_tup (fun i σ A => ∃ (v4 v5 : Option V) (b : Addr) (ks : List Int), σ = [some (.str (rgS l)), some (.int ((n : Nat) : Int)), some (.ref u), some (.ref b), v4, v5, none] ∧ Same H A ∧ SqL K A b (ks.map V.int) ∧ (∀ lot, (lots l n)[i]? = some lot → gtI (keyL lot) ks = true)) ⟨none, none, b0, [0], rfl, s0, SqL.of upd_same, fun lot e => ?_⟩ (fun i σ A _ h => let ⟨_, _, _, _, _, s, _⟩ := h; sameT s hu) (fun i x σ A A' hi hP hY => ?_) (fun σ A hP => ?_)
    · have := lots_len (List.mem_of_getElem? e)
      exact gt_head (by omega)
    · obtain ⟨v4, v5, b, ks, rfl, sm, hb, gt⟩ := hP
      obtain ⟨rfl, hx⟩ := hY
      obtain ⟨d, hd, dx⟩ := hus.at hx
      rw [List.getElem?_map] at hd
      obtain ⟨lot, hlot, rfl⟩ := Option.map_eq_some_iff.mp hd
      have ml := List.mem_of_getElem? hlot
      have are := lots_are ml
      have l12 := lots_len ml
      have mem : ∀ f ∈ lot, f.2 ≤ l.length := fun f mf => by
        rcases are with ⟨g, rfl, hg, _⟩ | ⟨g, g2, rfl, h1, h2, _⟩
        · rw [List.mem_singleton.mp mf]; exact hg
        · rcases List.mem_cons.mp mf with rfl | mf
          · exact h1
          · rw [List.mem_singleton.mp mf]; exact h2
      obtain ⟨a, zs, rfl, hz, hzs, lz⟩ := lotD_inv (dx.k (Kt.same sm))
      refine ⟨_, rfl, _, _, _, _, true, rfl, .ty "tuple", tyT hz, kit_ty (by decide +kernel), true, rfl, iteF ?_⟩
      refine ⟨_, rfl, a, _, rfl, .inr hz, by decide, fun t ht => ?_⟩
      have s1 := same_new (o := .tup [.int 1, .int 2]) ht
      refine ⟨t, _, rfl, .inr (SqT.of upd_same), rfl, rfl, _, rfl, ?_⟩
      rw [show (if true = true then !inV (V.int ((zs.length : Nat) : Int)) [V.int 1, V.int 2] else inV (V.int ((zs.length : Nat) : Int)) [V.int 1, V.int 2]) = false by rcases l12 with e | e <;> rw [lz, e] <;> decide +kernel]
      refine iteF ?_
      have sm1 := sm.trans s1
      refine ⟨_, rfl, _, rfl, a, l, lot, rfl, hl, fts_tup (sameT s1 hz) (hzs.k (Kt.same s1)), ⟨by omega, mem⟩, fun A2 r s2 hr0 hr => ?_⟩
      have sm2 := sm1.trans s2
      have s12 := s1.trans s2
      refine ⟨r, _, rfl, .inr (SqT.of hr), _, rfl, _, _, rfl, rfl, _, rfl, ?_⟩
      have sl := lots_sil ml
      have e1 : decide (((n : Nat) : Int) ≤ (((nV (heardL l (opn l lot))).length : Nat) : Int)) = false := by
        have q := heard_lt (l := l) (n := n) (fs := lot)
        rw [sl] at q
        have := of_decide_eq_true q
        exact decide_eq_false (by omega)
      rw [e1]
      refine iteF ?_
      have hz2 := sameT s12 hz
      have hzs2 := hzs.k (Kt.same s12)
      refine ⟨_, rfl, _, rfl, _, a, lot, rfl, (.tup hz2 hzs2), fun f m => Nat.le_trans (mem f m) hl, by omega, fun A3 o s3 ho => ?_⟩
      have sm3 := sm2.trans s3
      have s13 := s12.trans s3
      have hz3 := sameT s13 hz
      have hb3 : SqL K A3 b (ks.map V.int) := (Hf.keepL s13 hb)
      have z3 : ∀ {A' : Hp}, Same A3 A' → SqT K A' a zs := fun s => sameT s hz3
      refine ⟨_, rfl, a, _, rfl, .inr hz3, small_len (by show 1 ≤ 100000; decide), fun p0 hp0 => ?_⟩
      have sp0 := same_new (o := .lst [.int ((zs.length : Nat) : Int)]) hp0
      have lo : ((lot.map ord).map V.int).length ≤ 2 := by rw [List.length_map, List.length_map]; omega
      refine ⟨_, rfl, p0, o, _, _, rfl, rfl, upd_same, at_old ho hp0, small_len (by show 1 + _ ≤ _; omega), fun p1 hp1 => ?_⟩
      have ek : [V.int ((zs.length : Nat) : Int)] ++ (lot.map ord).map V.int = (keyL lot).map V.int := by rw [lz]; rfl
      rw [ek]
      have sp1 := sp0.trans (same_new (o := .lst ((keyL lot).map V.int)) hp1)
      refine ⟨_, rfl, p1, b, _, _, rfl, rfl, SqL.of upd_same, Hf.keepL sp1 hb3, ?_⟩
      rw [gt lot hlot]
      refine ⟨_, rfl, iteF ?_⟩
      have ho4 := sp1 _ _ ho
      refine ⟨_, rfl, _, rfl, o, _, rfl, SqL.of ho4, fun ns' p2 perm pw hp2 => ?_⟩
      have srt : (lot.map ord).Pairwise (· ≤ ·) := by
        rcases are with ⟨f, rfl, _⟩ | ⟨f, g, rfl, _, _, lt, _⟩
        · exact List.pairwise_singleton _ _
        · exact List.pairwise_cons.mpr ⟨fun y m => by rw [List.mem_singleton.mp m]; omega, List.pairwise_singleton _ _⟩
      have e2 : ns' = lot.map ord := perm_small perm pw srt
      subst e2
      have sp2 := same_new (o := .lst ((lot.map ord).map V.int)) hp2
      have intD : ∀ (A' : Hp) (is : List Int), Dts K A' (is.map V.int) (is.map PyData.int) := fun A' is => by
        induction is with
        | nil => exact .nil
        | cons i r ih => exact .cons (.int i) ih
      have fi : Fine 2 (.list ((lot.map ord).map PyData.int)) := fine_list fun d m => by
        obtain ⟨i, _, rfl⟩ := List.mem_map.mp m
        exact fine_int _
      refine ⟨.list ((lot.map ord).map .int), .list ((lot.map ord).map .int), .lst (SqL.of (sp2 _ _ ho4)) (intD _ _).toDp, .lst (SqL.of upd_same) (intD _ _).toDp, fi.shaped (by decide), fi.shaped (by decide), ?_⟩
      rw [fi.refl]
      refine ⟨_, rfl, iteF ?_⟩
      have s4 := sp1.trans sp2
      have ho5 := s4 _ _ ho
      have hz5 := z3 s4
      generalize upd (upd (upd A3 p0 (.lst [V.int ((zs.length : Nat) : Int)])) p1 (.lst ((keyL lot).map V.int))) p2 (.lst ((lot.map ord).map V.int)) = A5 at *
      refine ⟨_, rfl, a, _, rfl, .inr hz5, small_len (by show 1 ≤ 100000; decide), fun p3 hp3 => ?_⟩
      have sp3 := same_new (o := .lst [.int ((zs.length : Nat) : Int)]) hp3
      refine ⟨_, rfl, p3, o, _, _, rfl, rfl, upd_same, at_old ho5 hp3, small_len (by show 1 + _ ≤ _; omega), fun p4 hp4 => ?_⟩
      rw [ek]
      have sp4 := sp3.trans (same_new (o := .lst ((keyL lot).map V.int)) hp4)
      have hb6 : upd (upd A5 p3 (.lst [V.int ((zs.length : Nat) : Int)])) p4 (.lst ((keyL lot).map V.int)) p4 = some (.lst ((keyL lot).map V.int)) := upd_same
      have hz6 := sameT sp4 hz5
      have s06 : Same A' (upd (upd A5 p3 (.lst [V.int ((zs.length : Nat) : Int)])) p4 (.lst ((keyL lot).map V.int))) := (s13.trans s4).trans sp4
      generalize upd (upd A5 p3 (.lst [V.int ((zs.length : Nat) : Int)])) p4 (.lst ((keyL lot).map V.int)) = A6 at *
      have next : ∀ lot', (lots l n)[i + 1]? = some lot' → gtI (keyL lot') (keyL lot) = true := fun lot' e => by
        have pw := lots_pw l n
        obtain ⟨hi1, e1⟩ := List.getElem?_eq_some_iff.mp hlot
        obtain ⟨hi2, e2⟩ := List.getElem?_eq_some_iff.mp e
        have := List.pairwise_iff_getElem.mp pw i (i + 1) hi1 hi2 (by omega)
        rw [e1, e2] at this
        exact this
      refine ⟨_, rfl, a, _, rfl, .inr hz6, rfl, _, rfl, ite2 (fun c => ?_) (fun c => ?_)⟩
      · have l2 : lot.length = 2 := by have := V.int.inj (of_decide_eq_true c); omega
        have ns2 : ∀ f ∈ lot, sil l n [f] = false := fun f mf => by
          rcases are with ⟨g, rfl, _⟩ | ⟨g, g2, rfl, _, _, _, h1, h2⟩
          · exact absurd l2 (by show ¬ 1 = 2; decide)
          · rcases List.mem_cons.mp mf with rfl | mf
            · exact h1
            · rw [List.mem_singleton.mp mf]; exact h2
        have hzs6 := hzs.k (Kt.same s06)
        refine ⟨_, rfl, a, rfl, ⟨_, hz6⟩, fun D hD => ?_⟩
        refine Lm.lc_map (K := K) walk_tup (fun j y _ => (((lot.map fun f => (((heardL l (opn l [f])).length : Nat) : Int)).map V.int))[j]? = some y) (fun _ _ _ _ h _ => h) hD (by omega) (fun H' s => sameT s hz6) (fun j y H' hj hy s7 Q2 Z q2 => ?_) (fun A7 ys s7 hy ly hR => ?_)
        · obtain ⟨e, he, dy⟩ := hzs6.at hy
          rw [List.getElem?_map] at he
          obtain ⟨f, hf, rfl⟩ := Option.map_eq_some_iff.mp he
          have mf := List.mem_of_getElem? hf
          refine ⟨rfl, yesT ?_⟩
          refine ⟨_, rfl, _, rfl, small_len (by show 1 ≤ 100000; decide), fun t ht => ?_⟩
          have st := same_new (o := .tup [y]) ht
          refine ⟨t, l, [f], rfl, hl, ⟨true, [y], SqT.of upd_same, (Dts.cons (dy.k (Kt.same s7)) .nil).k (Kt.same st)⟩, ⟨by show 1 ≤ 20; decide, fun x m => by rw [List.mem_singleton.mp m]; exact mem f mf⟩, fun A8 r8 s8 hr0 hr8 => ?_⟩
          refine ⟨r8, _, rfl, .inr (SqT.of hr8), ?_⟩
          refine q2 _ _ (st.trans s8) ?_
          rw [List.getElem?_map, List.getElem?_map, hf]
          show some (V.int (((heardL l (opn l [f])).length : Nat) : Int)) = some (V.int (((nV (heardL l (opn l [f]))).length : Nat) : Int))
          rw [nV_len]
        · have ey : ys = (lot.map fun f => (((heardL l (opn l [f])).length : Nat) : Int)).map V.int := Lm.list_is (by rw [List.length_map, List.length_map]; omega) hR
          rw [ey] at hy
          refine ⟨D, _, rfl, SqL.of hy, by rw [List.length_map]; omega, fun m mm _ => ?_⟩
          obtain ⟨f, mf, rfl⟩ := List.mem_map.mp mm
          have no := ns2 f mf
          unfold sil at no
          have no := of_decide_eq_false no
          refine ⟨_, rfl, _, _, rfl, rfl, _, rfl, ?_⟩
          rw [decide_eq_false (by omega)]
          exact iteF ⟨_, _, _, keyL lot, rfl, (sm.trans s06).trans s7, SqL.of (s7 _ _ hb6), next⟩
      · exact ⟨_, _, _, keyL lot, rfl, sm.trans s06, SqL.of hb6, next⟩
    · obtain ⟨v4, v5, b, ks, rfl, sm, hb, gt⟩ := hP
      exact k _ sm
end
end K51

namespace K51
open PySem L2 Wm TL Dv Rm Lo Gtl
section
variable {P : Program} {w : World} {K : PySem.W.Frag} {mg : Str → Option Value} {base : Heap}
theorem mem_o (l : List Bool) : 111 ∈ (rgS l).cps.toList ↔ false ∈ l := by
  rw [rgS_cps, List.mem_map]
  constructor
  · rintro ⟨b, m, e⟩
    cases b with
    | false => exact m
    | true => exact absurd e (by decide)
  · exact fun m => ⟨false, m, by decide⟩
theorem num1 : Num [1] := ⟨by decide, by decide, by decide, by decide⟩
theorem num2 : Num [2] := ⟨by decide, by decide, by decide, by decide⟩
theorem num1S : numS [1] = ("1" : Str) := by decide +kernel
theorem num2S : numS [2] = ("2" : Str) := by decide +kernel
theorem so_app (l : List Bool) : ("so" : Str) ++ rgS l = rgS (true :: false :: l) := by
  rw [show ("so" : Str) = rgS [true, false] from by decide +kernel, rgS_app]
  rfl
theorem rep_s (n : Nat) : (⟨(List.replicate n 115).toArray⟩ : Str) = rgS (List.replicate n true) := by
  unfold rgS
  rw [List.map_replicate]
  rfl
theorem one_count {l : List Bool} (h : Ri l) : 1 ≤ l.count true := List.count_pos_iff.mpr h.has
theorem Dt.lots {H : Hp} {u : Addr} {lts : List (List Ft)} (h : Dt K H (.ref u) (.tuple (lts.map fun lot => .tuple (lot.map ftD)))) : Dt K H (.ref u) (.tuple (lts.map lotD)) := h
theorem fine_lot (lot : List Ft) : Fine 2 (lotD lot) := fine_tup fun d m => by
  obtain ⟨f, _, rfl⟩ := List.mem_map.mp m
  exact fine_ft f
theorem fine_lots (lts : List (List Ft)) : Fine 3 (.tuple (lts.map lotD)) := fine_tup fun d m => by
  obtain ⟨f, _, rfl⟩ := List.mem_map.mp m
  exact fine_lot f
theorem fine_fts (fs : List Ft) : Fine 2 (.tuple (fs.map ftD)) := fine_tup fun d m => by
  obtain ⟨f, _, rfl⟩ := List.mem_map.mp m
  exact fine_ft f
theorem ok_exchanged (T : Txt K mg) : FnOk P w K mg base CX0 10 T.a_exchanged T.d_exchanged ["_law_house", "_law_text_here", "_law_bar", "_law_steps", "_law_least"] (sp_exchanged K T.C T.HC) := by
  refine T.F_exchanged.ok sc_exchanged (fun vs H Q E h => ?_) (fun cdv A outer s H vs Q E hr h => ?_)
  · obtain ⟨p, h, rfl, _⟩ := h
    rfl
  · obtain ⟨p, h, rfl, hA, ok, kk⟩ := h
    obtain ⟨dx, fs, q, hp, l1, l2, l3, l4, l5, l6, l7, l8, r⟩ := id hA
    have nm := hn_meth "with_rules" l8 (by decide +kernel)
    have R := ok.ri
    have hl := R.len
    have r1 := ok.r1
    have r8 := ok.r8
    have n1 := ok.n1
    have nl := ok.nl
    refine ⟨_, (C8.pss_cut (ps_set (i := 5) sc_exchanged.nd rfl (Or.inl rfl) (pe_ifExp (pt_cmpR op_ne (pe_fld (pv 0) rfl) pe_str (nomark _)) pe_str pe_str))
      (C8.pss_cut (ps_set (i := 6) sc_exchanged.nd rfl (Or.inl rfl) (pe_ifExp (pt_cmpR op_lt (pe_callB call_len_str (by rfl) T.z_len PySem.boot_len (pa_cons (pv 1) pa_nil)) pe_int (nomark _)) (pe_op op_add_str pe_str (pv 1)) (pe_ifExp (pt_cmpR op_in_sign pe_str (pv 1) rfl) (pe_op Xe.op_mul1 pe_str (pe_callB call_len_str (by rfl) T.z_len PySem.boot_len (pa_cons (pv 1) pa_nil))) (pe_op op_add_str pe_str (pe_slice sl_str (pv 1) (po_some pe_int) po_none)))))
      (pss_cons (ps_set (i := 7) sc_exchanged.nd rfl (Or.inl rfl) (pe_lst (pa_cons (pe_makeK T.mk_hinit (ok_hinit T) (hr.mono (by decide)) (by rfl) T.gHC T.kbH3 Mk1.passF (pa_cons (pv 5) (pa_cons (pv 1) pa_nil)) (pk_cons (pv 2) (pk_cons (pv 3) (pk_cons (pv 4) pk_nil)))) (pa_cons (Mk1.pe_methN (pv 0) T.clHC T.m_with_rules (ok_with_rules T) (hr.mono (by decide)) T.kwWM Mk1.passF (pk_cons (pe_op op_sub (pv 2) pe_int) pk_nil)) (pa_cons (Mk1.pe_methN (pv 0) T.clHC T.m_with_rules (ok_with_rules T) (hr.mono (by decide)) T.kwWR Mk1.passF (pk_cons (pe_op op_add (pe_op op_mod (pv 3) pe_int) pe_int) pk_nil)) (pa_cons (Mk1.pe_methN (pv 0) T.clHC T.m_with_rules (ok_with_rules T) (hr.mono (by decide)) T.kwWGN Mk1.passF (pk_cons (pv 6) (pk_cons pe_int pk_nil))) pa_nil))))))
      (C8.pss_cut (ps_if (pt_cmpR op_le (pv 4) (pe_callB call_len_seq (by rfl) T.z_len PySem.boot_len (pa_cons (pe_call (ok_spots T) (hr.mono (by decide)) (by rfl) T.g_spots T.F_spots.kp T.b_spots .nil pass0 (pa_cons (pv 6) pa_nil)) pa_nil)) (nomark _))
        (pss_one (ps_expr (pe_bm PySem.F.plainAttrs_list PySem.F.slot_list_append PySem.F.type_list_append mt_append (pv 7) (pa_cons (Mk1.pe_methN (pv 0) T.clHC T.m_with_rules (ok_with_rules T) (hr.mono (by decide)) T.kwWG Mk1.passF (pk_cons (pv 6) pk_nil)) pa_nil))))
        pss_nil)
      (C8.pss_cut (ps_if (pt_cmpR op_gt (pe_callB call_len_seq (by rfl) T.z_len PySem.boot_len (pa_cons (pe_call (ok_spots T) (hr.mono (by decide)) (by rfl) T.g_spots T.F_spots.kp T.b_spots .nil pass0 (pa_cons (pv 1) pa_nil)) pa_nil)) pe_int (nomark _))
        (pss_one (ps_expr (pe_bm PySem.F.plainAttrs_list PySem.F.slot_list_append PySem.F.type_list_append mt_append (pv 7) (pa_cons (Mk1.pe_methN (pv 0) T.clHC T.m_with_rules (ok_with_rules T) (hr.mono (by decide)) T.kwWN Mk1.passF (pk_cons (pe_op op_add (pe_op op_mod (pv 4) (pe_callB call_len_seq (by rfl) T.z_len PySem.boot_len (pa_cons (pe_call (ok_spots T) (hr.mono (by decide)) (by rfl) T.g_spots T.F_spots.kp T.b_spots .nil pass0 (pa_cons (pv 1) pa_nil)) pa_nil))) pe_int) pk_nil)) pa_nil))))
        pss_nil)
      (pss_cons (ps_for PassesOwn.never rfl (pi_list (pv 7)) (pg_name (i := 8) sc_exchanged.nd rfl (Or.inl rfl))
        (pss_one (ps_if (PW.pt (pw_or (pt_cmpR (Ow.op_cmp (op := .Eq) (fun _ _ => rfl) T.aEq T.iEq ((ok_heq T).raw T.b_heq .nil) (hr.mono (by decide)) pass0) (pv 0) (pv 8) (nomark _)) (pw_or (pt_cmpR (Ow.op_cmp (op := .Eq) (fun _ _ => rfl) T.aEq T.iEq ((ok_heq T).raw T.b_heq .nil) (hr.mono (by decide)) pass0) (pv 8) (pv 0) (nomark _)) (pw_or1 (pt_not (pt_cmpR (Ow.op_cmp (op := .Eq) (fun _ _ => rfl) T.aEq T.iEq ((ok_heq T).raw T.b_heq .nil) (hr.mono (by decide)) pass0) (pv 8) (Mk1.pe_methN (pv 8) T.clHC T.m_with_rules (ok_with_rules T) (hr.mono (by decide)) T.kwW Mk1.passF pk_nil) (nomark _)))))))
          (pss_one (ps_ret pe_bl))
          pss_nil)))
      (pss_cons (ps_par (i := 8) (j := 9) rfl sc_exchanged.nd rfl rfl (by decide) rfl rfl (pa_cons (pe_ix ix_list (pv 7) pe_int (fun _ _ => rfl)) (pa_cons (pe_makeK T.mk_hinit (ok_hinit T) (hr.mono (by decide)) (by rfl) T.gHC T.kbH2 Mk1.passF (pa_cons (pe_fld (pv 0) rfl) (pa_cons (pv 6) pa_nil)) (pk_cons (pv 2) (pk_cons (pv 3) pk_nil))) pa_nil)) rfl)
      (pss_cons (ps_if (PW.pt (pw_or (pt_cmpR op_ne (pe_fld (pv 8) rfl) (pv 6) (nomark _)) (pw_or (pt_cmpR op_ne (pe_fld (pe_fld (pv 8) rfl) rfl) (pv 6) (nomark _)) (pw_or1 (pt_cmpR op_ne (pe_fld (pv 8) rfl) (pe_callB call_len_seq (by rfl) T.z_len PySem.boot_len (pa_cons (pe_call (ok_spots T) (hr.mono (by decide)) (by rfl) T.g_spots T.F_spots.kp T.b_spots .nil pass0 (pa_cons (pv 6) pa_nil)) pa_nil)) (nomark _))))))
        (pss_one (ps_ret pe_bl))
        pss_nil)
      (pss_one (ps_ret (pe_and (pe_cmpR (Ow.op_cmp (op := .Eq) (fun _ _ => rfl) T.aEq T.iEq ((ok_heq T).raw T.b_heq .nil) (hr.mono (by decide)) pass0) (pv 8) (pv 9) (nomark _)) (pe_and (pe_cmpR (op_eqD hr.units) (pe_meth0 (pv 8) T.clHC T.m_least_lots (ok_least_lots T) (hr.mono (by decide)) T.b_least_lots .nil pass0) (pe_meth0 (pv 9) T.clHC T.m_least_lots (ok_least_lots T) (hr.mono (by decide)) T.b_least_lots .nil pass0) (nomark _)) (pe_one (pe_cmpR (op_eqD hr.units) (pe_meth0 (pv 8) T.clHC T.m_silent_faults (ok_silent_faults T) (hr.mono (by decide)) T.b_silent_faults .nil pass0) (pe_meth0 (pv 9) T.clHC T.m_silent_faults (ok_silent_faults T) (hr.mono (by decide)) T.b_silent_faults .nil pass0) (nomark _))))))))))))))), ?_⟩
    refine ⟨fun σ A => ∃ es : List Nat, Num es ∧ numS es ≠ numS h.ds ∧ σ = [some (.ref p), some (.str (rgS h.l)), some (.int h.m), some (.int h.r), some (.int ((h.n : Nat) : Int)), some (.str (numS es)), none, none, none, none] ∧ A = H, ?_, ?_⟩
    · refine ⟨_, rfl, p, T.HC, dx, fs, _, rfl, hp, T.clHC, T.nBo, l1, rfl, _, rfl, ite2 (fun c => ?_) (fun c => ?_)⟩
      · refine ⟨[1], num1, fun e => ?_, by rw [num1S]; rfl, rfl⟩
        rw [← e, num1S, decide_eq_true rfl] at c
        cases c
      · refine ⟨[2], num2, fun e => ?_, by rw [num2S]; rfl, rfl⟩
        rw [← e, num2S] at c
        exact c (by decide +kernel)
    rintro σ A ⟨es, N2, neS, rfl, rfl⟩
    refine ⟨fun σ A' => ∃ m : List Bool, Ri m ∧ rgS m ≠ rgS h.l ∧ σ = [some (.ref p), some (.str (rgS h.l)), some (.int h.m), some (.int h.r), some (.int ((h.n : Nat) : Int)), some (.str (numS es)), some (.str (rgS m)), none, none, none] ∧ A' = A, ?_, ?_⟩
    · refine ⟨_, rfl, _, rfl, by rw [rgS_len]; exact Nat.le_trans hl (by decide), _, _, rfl, rfl, _, rfl, ite2 (fun c => ?_) (fun c => ?_)⟩
      · have c := of_decide_eq_true c
        rw [rgS_len] at c
        refine ⟨_, rfl, _, _, rfl, rfl, by rw [rgS_len]; exact small_len (by show 2 + h.l.length ≤ _; omega), ?_⟩
        rw [so_app]
        refine ⟨_, ⟨by simp only [List.length_cons]; omega, List.mem_cons_self⟩, fun e => ?_, rfl, rfl⟩
        have := congrArg List.length (rgS_inj e)
        simp only [List.length_cons] at this
        omega
      · refine ⟨_, rfl, 111, _, rfl, rfl, _, rfl, ite2 (fun c2 => ?_) (fun c2 => ?_)⟩
        · have mo := (mem_o h.l).mp (of_decide_eq_true c2)
          refine ⟨_, rfl, _, rfl, by rw [rgS_len]; exact Nat.le_trans hl (by decide), 115, h.l.length, rfl, by rw [rgS_len], ?_, ?_, ?_⟩
          · have := List.length_pos_of_mem mo; omega
          · omega
          · rw [rep_s]
            have lp : 0 < h.l.length := List.length_pos_of_mem mo
            refine ⟨_, ⟨by rw [List.length_replicate]; omega, List.mem_replicate.mpr ⟨by omega, rfl⟩⟩, fun e => ?_, rfl, rfl⟩
            have e := rgS_inj e
            rw [← e] at mo
            exact absurd (List.mem_replicate.mp mo).2 (by decide)
        · have mo : false ∉ h.l := fun m => c2 (decide_eq_true ((mem_o h.l).mpr m))
          refine ⟨_, rfl, 2, rfl, _, rfl, rg_small (by omega), ?_⟩
          rw [show ((2 : Int)) = ((2 : Nat) : Int) from rfl, rgS_drop]
          refine ⟨_, _, rfl, rfl, by rw [rgS_len, List.length_drop]; exact small_len (by show 2 + (h.l.length - 2) ≤ _; omega), ?_⟩
          rw [so_app]
          have c9 : ¬ h.l.length < 9 := fun z => c (decide_eq_true (by rw [rgS_len]; omega))
          refine ⟨_, ⟨by simp only [List.length_cons, List.length_drop]; omega, List.mem_cons_self⟩, fun e => ?_, rfl, rfl⟩
          rw [← rgS_inj e] at mo
          exact mo (by simp)
    rintro σ A' ⟨m, Rm2, neR, rfl, rfl⟩
    have m1 := one_count Rm2
    have hlm := Rm2.len
    refine ⟨_, rfl, _, rfl, _, rfl, _, rfl, _, rfl, rfl, rfl, fun pA dy hpA hdy ne => ?_⟩
    have sm := made (C := T.HC) hpA hdy ne
    refine ⟨pA, dy, _, _, _, _, _, .ok ⟨es, h.l, h.m, h.r, h.n⟩, rfl, upd_same, HI.ok (h := ⟨es, h.l, h.m, h.r, h.n⟩) ⟨N2, R, r1, r8, n1, nl⟩, fun A1 off hA1 => ⟨rfl, ?_⟩⟩
    have s1 := made_off hpA hdy ne off
    refine ⟨_, rfl, p, dx, fs, rfl, s1 _ _ hp, nm, _, rfl, _, _, rfl, rfl, rfl, p, h, none, some (h.m - 1), none, none, .ok ⟨h.ds, h.l, h.m - 1, h.r, h.n⟩, rfl, hA.keep s1, HI.ok (h := ⟨h.ds, h.l, h.m - 1, h.r, h.n⟩) ⟨ok.num, R, r1, r8, n1, nl⟩, fun A2 q2 s2 nq2 hB => ?_⟩
    have s12 := s1.trans s2
    have rr : 1 ≤ h.r % 8 + 1 ∧ h.r % 8 + 1 ≤ 8 ∧ h.r ≠ h.r % 8 + 1 := by omega
    refine ⟨_, rfl, p, dx, fs, rfl, s12 _ _ hp, nm, _, rfl, _, _, rfl, rfl, (show (0 : Int) < 8 by decide), _, _, rfl, rfl, rfl, p, h, none, none, some (h.r % 8 + 1), none, .ok ⟨h.ds, h.l, h.m, h.r % 8 + 1, h.n⟩, rfl, hA.keep s12, HI.ok (h := ⟨h.ds, h.l, h.m, h.r % 8 + 1, h.n⟩) ⟨ok.num, R, rr.1, rr.2.1, n1, nl⟩, fun A3 q3 s3 nq3 hCc => ?_⟩
    have s13 := s12.trans s3
    refine ⟨_, rfl, p, dx, fs, rfl, s13 _ _ hp, nm, _, rfl, rfl, p, h, some (rgS m), none, none, some 1, .ok ⟨h.ds, m, h.m, h.r, 1⟩, rfl, hA.keep s13, HI.ok (h := ⟨h.ds, m, h.m, h.r, 1⟩) ⟨ok.num, Rm2, r1, r8, Nat.le_refl _, m1⟩, fun A4 q4 s4 nq4 hD => ?_⟩
    have s14 := s13.trans s4
    refine ⟨small_len (by show 4 ≤ 100000; decide), fun D hD0 => ?_⟩
    have sD := same_new (o := .lst [.ref pA, .ref q2, .ref q3, .ref q4]) hD0
    have sA : Same A' (upd A4 D (.lst [.ref pA, .ref q2, .ref q3, .ref q4])) := s14.trans sD
    have hDA : A' D = none := s14.free hD0
    have hs : HsOk ⟨es, h.l, h.m, h.r, h.n⟩ := ⟨N2, R, r1, r8, n1, nl⟩
    have hD5 := hD.keep sD
    have hD5' : upd A4 D (.lst [.ref pA, .ref q2, .ref q3, .ref q4]) D = some (.lst [.ref pA, .ref q2, .ref q3, .ref q4]) := upd_same
    have u4 : ∀ x ∈ [V.ref pA, .ref q2, .ref q3, .ref q4], Unl K T.C T.HC (upd A4 D (.lst [.ref pA, .ref q2, .ref q3, .ref q4])) h x := fun x mx => by
      rcases List.mem_cons.mp mx with rfl | mx
      · have e := eqH_no (h := h) (g := ⟨es, h.l, h.m, h.r, h.n⟩) fun z => neS z.1.symm
        exact ⟨pA, _, rfl, (((hA1.keep s2).keep s3).keep s4).keep sD, hs, e.1, e.2⟩
      rcases List.mem_cons.mp mx with rfl | mx
      · have e := eqH_no (h := h) (g := ⟨h.ds, h.l, h.m - 1, h.r, h.n⟩) fun z => by have : h.m = h.m - 1 := z.2.2.1; omega
        exact ⟨q2, _, rfl, ((hB.keep s3).keep s4).keep sD, ⟨ok.num, R, r1, r8, n1, nl⟩, e.1, e.2⟩
      rcases List.mem_cons.mp mx with rfl | mx
      · have e := eqH_no (h := h) (g := ⟨h.ds, h.l, h.m, h.r % 8 + 1, h.n⟩) fun z => rr.2.2 z.2.2.2.1
        exact ⟨q3, _, rfl, (hCc.keep s4).keep sD, ⟨ok.num, R, rr.1, rr.2.1, n1, nl⟩, e.1, e.2⟩
      · have e := eqH_no (h := h) (g := ⟨h.ds, m, h.m, h.r, 1⟩) fun z => neR z.2.1.symm
        rw [List.mem_singleton.mp mx]
        exact ⟨q4, _, rfl, hD5, ⟨ok.num, Rm2, r1, r8, Nat.le_refl _, m1⟩, e.1, e.2⟩
    generalize upd A4 D (.lst [.ref pA, .ref q2, .ref q3, .ref q4]) = A5 at *
    refine ⟨fun σ B => ∃ xs : List V, σ = [some (.ref p), some (.str (rgS h.l)), some (.int h.m), some (.int h.r), some (.int ((h.n : Nat) : Int)), some (.str (numS es)), some (.str (rgS m)), some (.ref D), none, none] ∧ Same A' B ∧ B D = some (.lst xs) ∧ xs.length ≤ 5 ∧ (∀ x ∈ xs, Unl K T.C T.HC B h x) ∧ xs[3]? = some (.ref q4) ∧ HouseAt K T.C T.HC B q4 ⟨h.ds, m, h.m, h.r, 1⟩, ?_, ?_⟩
    · refine ⟨_, rfl, _, rfl, m, rfl, Rm2.len, fun B r0 s5 nr hr => ?_⟩
      refine ⟨r0, _, rfl, .inl (SqL.of hr), _, _, rfl, rfl, _, rfl, ite2 (fun c => ?_) (fun c => ?_)⟩
      · have c := of_decide_eq_true c
        rw [nV_len, Rm.sp_len] at c
        have sB := sA.trans s5
        refine ⟨_, rfl, .inl ⟨rfl, _, SqL.of (s5 _ _ hD5')⟩, _, rfl, p, dx, fs, rfl, sB _ _ hp, nm, _, rfl, rfl, p, h, some (rgS m), none, none, none, .ok ⟨h.ds, m, h.m, h.r, h.n⟩, rfl, hA.keep sB, HI.ok (h := ⟨h.ds, m, h.m, h.r, h.n⟩) ⟨ok.num, Rm2, r1, r8, n1, by show h.n ≤ m.count true; omega⟩, fun B2 q5 s6 nq5 hE => ?_⟩
        have s56 := s5.trans s6
        have hD2 := s56 _ _ hD5'
        refine ⟨D, _, _, rfl, rfl, hD2, small_len (by show 4 + 1 ≤ 100000; decide), ?_⟩
        refine ⟨_, rfl, same_mut (sA.trans s56) hDA, upd_same, by show 4 + 1 ≤ 5; decide, fun x mx => ?_, rfl, (hD5.keep s56).set hD2⟩
        rcases List.mem_append.mp mx with mx | mx
        · exact ((u4 x mx).ks s56).set hD2
        · have e := eqH_no (h := h) (g := ⟨h.ds, m, h.m, h.r, h.n⟩) fun z => neR z.2.1.symm
          rw [List.mem_singleton.mp mx]
          exact ⟨q5, _, rfl, hE.set hD2, ⟨ok.num, Rm2, r1, r8, n1, by show h.n ≤ m.count true; omega⟩, e.1, e.2⟩
      · exact ⟨_, rfl, sA.trans s5, s5 _ _ hD5', by show 4 ≤ 5; decide, fun x mx => (u4 x mx).ks s5, rfl, hD5.keep s5⟩
    rintro σ B ⟨xs, rfl, sB, hDB, lx, ux, x3, h4⟩
    refine ⟨fun σ B => ∃ xs : List V, σ = [some (.ref p), some (.str (rgS h.l)), some (.int h.m), some (.int h.r), some (.int ((h.n : Nat) : Int)), some (.str (numS es)), some (.str (rgS m)), some (.ref D), none, none] ∧ Same A' B ∧ B D = some (.lst xs) ∧ xs.length ≤ 6 ∧ (∀ x ∈ xs, Unl K T.C T.HC B h x) ∧ xs[3]? = some (.ref q4) ∧ HouseAt K T.C T.HC B q4 ⟨h.ds, m, h.m, h.r, 1⟩, ?_, ?_⟩
    · refine ⟨_, rfl, h.l, rfl, hl, fun B1 r0 s5 nr hr => ?_⟩
      refine ⟨r0, _, rfl, .inl (SqL.of hr), _, _, rfl, rfl, _, rfl, ite2 (fun c => ?_) (fun c => ?_)⟩
      · have c := of_decide_eq_true c
        rw [nV_len, Rm.sp_len] at c
        have sB1 := sB.trans s5
        refine ⟨_, rfl, .inl ⟨rfl, _, SqL.of (s5 _ _ hDB)⟩, _, rfl, p, dx, fs, rfl, sB1 _ _ hp, nm, _, rfl, _, rfl, h.l, rfl, hl, fun B2 r2 s6 nr2 hr2 => ?_⟩
        refine ⟨r2, _, rfl, .inl (SqL.of hr2), _, _, rfl, rfl, by rw [nV_len, Rm.sp_len]; omega, _, _, rfl, rfl, rfl, ?_⟩
        rw [nV_len, Rm.sp_len, ← Int.natCast_emod]
        have c1 : h.n % h.l.count true + 1 ≤ h.l.count true ∧ h.n ≠ h.n % h.l.count true + 1 := by
          rcases Nat.lt_or_ge h.n (h.l.count true) with z | z
          · rw [Nat.mod_eq_of_lt z]; omega
          · rw [show h.n = h.l.count true by omega, Nat.mod_self]; omega
        have s56 := s5.trans s6
        have sB2 := sB.trans s56
        refine ⟨p, h, none, none, none, some (((h.n % h.l.count true + 1 : Nat) : Int)), .ok ⟨h.ds, h.l, h.m, h.r, h.n % h.l.count true + 1⟩, rfl, hA.keep sB2, HI.ok (h := ⟨h.ds, h.l, h.m, h.r, h.n % h.l.count true + 1⟩) ⟨ok.num, R, r1, r8, Nat.le_add_left _ _, c1.1⟩, fun B3 q6 s7 nq6 hE => ?_⟩
        have s57 := s56.trans s7
        have hD2 := s57 _ _ hDB
        refine ⟨D, _, _, rfl, rfl, hD2, small_len (by show xs.length + 1 ≤ 100000; omega), ?_⟩
        refine ⟨_, rfl, same_mut (sB.trans s57) hDA, upd_same, by rw [List.length_append]; show xs.length + 1 ≤ 6; omega, fun x mx => ?_, by rw [List.getElem?_append_left (List.getElem?_eq_some_iff.mp x3).1]; exact x3, (h4.keep s57).set hD2⟩
        rcases List.mem_append.mp mx with mx | mx
        · exact ((ux x mx).ks s57).set hD2
        · have e := eqH_no (h := h) (g := ⟨h.ds, h.l, h.m, h.r, h.n % h.l.count true + 1⟩) fun z => c1.2 z.2.2.2.2
          rw [List.mem_singleton.mp mx]
          exact ⟨q6, _, rfl, hE.set hD2, ⟨ok.num, R, r1, r8, Nat.le_add_left _ _, c1.1⟩, e.1, e.2⟩
      · exact ⟨_, rfl, sB.trans s5, s5 _ _ hDB, by omega, fun x mx => (ux x mx).ks s5, x3, h4.keep s5⟩
    rintro σ B0 ⟨ys, rfl, sB0, hDB0, ly, uy, y3, h40⟩
    refine ⟨_, rfl, D, rfl, ⟨_, SqL.of hDB0⟩, ?_⟩
    refine for_it walk_list (fun i σ B => ∃ v8, σ = [some (.ref p), some (.str (rgS h.l)), some (.int h.m), some (.int h.r), some (.int ((h.n : Nat) : Int)), some (.str (numS es)), some (.str (rgS m)), some (.ref D), v8, none] ∧ Same B0 B) ⟨none, rfl, Same.refl _⟩ (fun i σ B _ h => let ⟨_, _, s⟩ := h; SqL.of (s _ _ hDB0)) (fun i x σ B B' hi hP hY => ?_) (fun σ B hP => ?_)
    · obtain ⟨v8, rfl, sm⟩ := hP
      obtain ⟨rfl, hx⟩ := hY
      obtain ⟨g, gs, rfl, hG, okg, e1, e2⟩ := (uy x (List.mem_of_getElem? hx)).ks sm
      have hAB := hA.keep (sB0.trans sm)
      obtain ⟨dg, fg, qg, hg, g1, g2, g3, g4, g5, g6, g7, g8, rg⟩ := id hG
      have hpB := (sB0.trans sm) _ _ hp
      refine ⟨_, rfl, _, rfl, p, dx, fs, _, rfl, hpB, (.base (.ins hg T.clHC T.isi.ca T.isi.cn T.isi.ct T.isi.cm)), T.sfC, p, g, h, gs, rfl, hAB, hG, ?_⟩
      rw [e1]
      refine ⟨_, rfl, iteF ⟨_, rfl, _, rfl, g, dg, fg, _, rfl, hg, (.base (.ins hpB T.clHC T.isi.ca T.isi.cn T.isi.ct T.isi.cm)), T.sfC, g, p, gs, h, rfl, hG, hAB, ?_⟩⟩
      rw [e2]
      refine ⟨_, rfl, iteF ⟨_, rfl, _, rfl, g, dg, fg, rfl, hg, hn_meth "with_rules" g8 (by decide +kernel), rfl, g, gs, none, none, none, none, .ok gs, rfl, hG, HI.ok okg, fun B2 q8 s8 nq8 hE => ?_⟩⟩
      obtain ⟨d8, f8, y8, hq8, k1, k2, k3, k4, k5, k6, k7, k8, r8'⟩ := id hE
      refine ⟨g, dg, fg, _, rfl, s8 _ _ hg, (.base (.ins hq8 T.clHC T.isi.ca T.isi.cn T.isi.ct T.isi.cm)), T.sfC, g, q8, gs, gs, rfl, hG.keep s8, hE, ?_⟩
      rw [eqH_refl]
      refine ⟨_, rfl, iteF ⟨_, rfl, sm.trans s8⟩⟩
    · obtain ⟨v8, rfl, sm⟩ := hP
      have sAB := sB0.trans sm
      have h4b := h40.keep sm
      refine ⟨_, rfl, D, _, 3, _, rfl, rfl, SqL.of (sm _ _ hDB0), atI_nat (j := 3) y3, ?_⟩
      refine ⟨_, rfl, p, T.HC, dx, fs, _, rfl, sAB _ _ hp, T.clHC, T.nBo, l1, _, rfl, _, rfl, _, rfl, rfl, rfl, fun pB dz hpB hdz neB => ?_⟩
      refine ⟨pB, dz, _, _, _, _, _, .ok ⟨h.ds, m, h.m, h.r, 1⟩, rfl, upd_same, HI.ok (h := ⟨h.ds, m, h.m, h.r, 1⟩) ⟨ok.num, Rm2, r1, r8, Nat.le_refl _, m1⟩, fun B2 off2 hB2 => ⟨rfl, ?_⟩⟩
      have s2' := made_off hpB hdz neB off2
      have h4c := h4b.keep s2'
      have sAC := sAB.trans s2'
      obtain ⟨d4, f4, y4, hq4, k1, k2, k3, k4, k5, k6, k7, k8, r4⟩ := id h4c
      obtain ⟨d6, f6, y6, hq6, j1, j2, j3, j4, j5⟩ := id r4
      refine ⟨_, _, rfl, ?_⟩
      refine ⟨_, rfl, q4, T.HC, d4, f4, _, rfl, hq4, T.clHC, T.nRi, k2, _, rfl, rfl, _, rfl, ?_⟩
      rw [decide_eq_true (show V.str (rgS m) = V.str (rgS m) from rfl)]
      refine iteF ⟨_, rfl, q4, T.HC, d4, f4, _, rfl, hq4, T.clHC, T.nLa, k6, y4, T.C, d6, f6, _, rfl, hq6, T.clC, T.nT, j1, _, rfl, rfl, _, rfl, ?_⟩
      rw [decide_eq_true (show V.str (rgS m) = V.str (rgS m) from rfl)]
      refine iteF ⟨_, rfl, q4, T.HC, d4, f4, _, rfl, hq4, T.clHC, T.nSk, k7, _, rfl, m, rfl, Rm2.len, fun B3 r9 s9 nr9 hr9 => ?_⟩
      refine ⟨r9, _, rfl, .inl (SqL.of hr9), rfl, _, rfl, ?_⟩
      rw [nV_len, Rm.sp_len, decide_eq_true (show V.int ((m.count true : Nat) : Int) = V.int ((m.count true : Nat) : Int) from rfl)]
      refine iteF ?_
      have h4d := h4c.keep s9
      have hBd := hB2.keep s9
      obtain ⟨dB, fB, yB, hqB, b1, b2, b3, b4, b5, b6, b7, b8, rB⟩ := id hBd
      refine ⟨_, rfl, _, rfl, q4, d4, f4, _, rfl, s9 _ _ hq4, (.base (.ins hqB T.clHC T.isi.ca T.isi.cn T.isi.ct T.isi.cm)), T.sfC, q4, pB, _, _, rfl, h4d, hBd, ?_⟩
      rw [eqH_refl]
      refine ⟨_, rfl, iteT ⟨_, rfl, q4, d4, f4, rfl, s9 _ _ hq4, hn_meth "least_lots" k8 (by decide +kernel), q4, _, rfl, h4d, Rm2.len, fun C1 u1 t1 du1 => ?_⟩⟩
      refine ⟨_, rfl, pB, dB, fB, rfl, t1 _ _ hqB, hn_meth "least_lots" b8 (by decide +kernel), pB, _, rfl, hBd.keep t1, Rm2.len, fun C2 u2 t2 du2 => ?_⟩
      have fl := fine_lots (lots m 1)
      refine ⟨_, _, (Dt.lots (du1.k (Kt.same t2))).toDp, (Dt.lots du2).toDp, fl.shaped (by decide), fl.shaped (by decide), ?_⟩
      rw [fl.refl]
      have t12 := t1.trans t2
      refine ⟨_, rfl, iteT ⟨_, rfl, q4, d4, f4, rfl, (s9.trans t12) _ _ hq4, hn_meth "silent_faults" k8 (by decide +kernel), q4, _, rfl, h4d.keep t12, Rm2.len, fun C3 u3 t3 du3 => ?_⟩⟩
      refine ⟨_, rfl, pB, dB, fB, rfl, (t12.trans t3) _ _ hqB, hn_meth "silent_faults" b8 (by decide +kernel), pB, _, rfl, hBd.keep (t12.trans t3), Rm2.len, fun C4 u4 t4 du4 => ?_⟩
      have ff := fine_fts (singles m 1)
      refine ⟨_, _, (du3.k (Kt.same t4)).toDp, du4.toDp, ff.shaped (by decide), ff.shaped (by decide), ?_⟩
      rw [ff.refl]
      exact kk _ ((((sAC.trans s9).trans t12).trans t3).trans t4)
end
end K51

namespace K51
open PySem L2 Wm TL Dv Rm Lo Gtl
section
variable {P : Program} {w : World} {K : PySem.W.Frag} {mg : Str → Option Value} {base : Heap}
theorem ok_changed (T : Txt K mg) : FnOk P w K mg base CX0 12 T.a_changed T.d_changed ["_law_state", "_law_house", "_law_text_here", "_law_bar", "_law_steps", "_law_least"] (sp_changed K T.C T.HC) := by
  refine T.F_changed.ok sc_changed (fun vs H Q E h => ?_) (fun cdv A outer s H vs Q E hr h => ?_)
  · obtain ⟨b, p, k, h, rfl, _⟩ := h
    rfl
  · obtain ⟨b, p, k, h, rfl, hbag, hk, hA, ok, kk⟩ := h
    obtain ⟨dx, fs, q, hp, l1, l2, l3, l4, l5, l6, l7, l8, r⟩ := id hA
    have nm := hn_meth "with_rules" l8 (by decide +kernel)
    have R := ok.ri
    have hl := R.len
    have r1 := ok.r1
    have r8 := ok.r8
    have n1 := ok.n1
    have nl := ok.nl
    refine ⟨_, (pss_cons (ps_set (i := 6) sc_changed.nd rfl (Or.inl rfl) (Mk1.pe_methN (pv 1) T.clHC T.m_with_rules (ok_with_rules T) (hr.mono (by decide)) T.kwW Mk1.passF pk_nil))
      (pss_cons (ps_set (i := 7) sc_changed.nd rfl (Or.inl rfl) (Mk1.pe_methN (pv 1) T.clHC T.m_with_rules (ok_with_rules T) (hr.mono (by decide)) T.kwWNM Mk1.passF (pk_cons pe_int (pk_cons (pe_op op_add (pv 3) pe_int) pk_nil))))
      (pss_cons (ps_if (PW.pt (pw_or (pt_not (pt_cmpR (Ow.op_cmp (op := .Eq) (fun _ _ => rfl) T.aEq T.iEq ((ok_heq T).raw T.b_heq .nil) (hr.mono (by decide)) pass0) (pv 6) (pv 1) (nomark _))) (pw_or (pt_cmpR (Ow.op_cmp (op := .Eq) (fun _ _ => rfl) T.aEq T.iEq ((ok_heq T).raw T.b_heq .nil) (hr.mono (by decide)) pass0) (pv 7) (pv 1) (nomark _)) (pw_or (pt_cmpR op_ne (pe_fld (pv 1) rfl) (pe_fld (pv 7) rfl) (nomark _)) (pw_or1 (pt_cmpR op_ne (pe_fld (pv 7) rfl) (pe_op op_add (pv 3) pe_int) (nomark _)))))))
        (pss_one (ps_ret pe_bl))
        pss_nil)
      (pss_cons (ps_if (PW.pt (pw_or (pt_cmpR op_ne (pe_fld (pv 7) rfl) pe_int (nomark _)) (pw_or (pt_cmpR op_ne (pe_fld (pv 7) rfl) (pv 2) (nomark _)) (pw_or (pt_cmpR op_ne (pe_fld (pv 7) rfl) (pv 4) (nomark _)) (pw_or (pt_cmpR op_ne (pe_fld (pv 1) rfl) (pv 5) (nomark _)) (pw_or1 (pt_cmpR op_ne (pe_fld (pv 1) rfl) (pv 3) (nomark _))))))))
        (pss_one (ps_ret pe_bl))
        pss_nil)
      (pss_cons (ps_if (PW.pt (pw_or (pt_not (pt_val (pe_call (ok_exchanged T) (hr.mono (by decide)) (by rfl) T.g_exchanged T.F_exchanged.kp T.b_exchanged .nil pass0 (pa_cons (pv 1) (pa_cons (pv 2) (pa_cons (pv 3) (pa_cons (pv 4) (pa_cons (pv 5) pa_nil)))))))) (pw_or1 (pt_not (pt_val (pe_call (ok_kept_out T) (hr.mono (by decide)) (by rfl) T.g_kept_out T.F_kept_out.kp T.b_kept_out .nil pass0 (pa_cons (pv 1) pa_nil)))))))
        (pss_one (ps_ret pe_bl))
        pss_nil)
      (pss_cons (ps_set (i := 8) sc_changed.nd rfl (Or.inl rfl) pe_str)
      (pss_cons (Ta.ps_try_ass (W := fun _ _ _ _ => False) rfl rfl sc_changed.nd takes0 (fun U pn xe tk _ => (pss_one (ps_expr (Kw.pe_methNS (pv 1) T.clHC T.m_with_rules (ok_with_rules T) (hr.mono (by decide)) T.kwWGR (fun σ => passAt tk σ) (pk_cons (pe_op Xe.op_mul1 pe_str (pe_callB (show CallR _ _ (Kx.rLen K) from call_len_seq) (by rfl) T.z_len PySem.boot_len (pa_cons (pe_call (ok_spots T) (hr.mono (by decide)) (by rfl) T.g_spots T.F_spots.kp T.b_spots .nil pass0 (pa_cons (pv 2) pa_nil)) pa_nil))) (pk_cons (pe_ix (show IxR _ (rIxT K) from ix_tup) (pe_tup (pa_cons pe_int (pa_cons pe_int pa_nil))) (pe_call (ok_draw T) (hr.mono (by decide)) (by rfl) T.g_draw T.F_draw.kp T.b_draw .nil pass0 (pa_cons (pv 0) (pa_cons pe_int pa_nil))) (fun _ _ => rfl)) pk_nil)))))) (Ta.Hds.cons (h := ⟨Value.ref T.CH, 9, _⟩) rfl rfl ⟨rfl, by decide, Or.inl T.lowH.gC⟩ (fun a oe cls d pn hz hf => (pss_one (ps_set (i := 8) sc_changed.nd rfl (Or.inl rfl) (pe_byLowH T.lowH hz hf (pv 9))))) Ta.Hds.nil))
      (pss_one (ps_ret (pe_and (pe_cmpR op_eq (pv 8) pe_str (nomark _)) (pe_one (pe_cmpR op_eq (pe_fld (Mk1.pe_methN (pv 1) T.clHC T.m_with_rules (ok_with_rules T) (hr.mono (by decide)) T.kwWG Mk1.passF (pk_cons (pe_ifExp (pt_cmpR op_lt (pe_callB call_len_str (by rfl) T.z_len PySem.boot_len (pa_cons (pv 2) pa_nil)) pe_int (nomark _)) (pe_op op_add_str (pv 2) pe_str) (pv 2)) pk_nil)) rfl) (pv 4) (nomark _))))))))))))), ?_⟩
    have tyH : ∀ {A : Hp} {q dq : Addr} {fq : List (Str × V)}, A q = some (.ins T.HC dq fq) → TyX K A (.ref q) (.ref T.HC) := fun h => .base (.ins h T.clHC T.isi.ca T.isi.cn T.isi.ct T.isi.cm)
    refine ⟨_, rfl, p, dx, fs, rfl, hp, nm, rfl, p, h, none, none, none, none, .ok h, rfl, hA, HI.ok ok, fun A1 q1 s1 nq1 h1 => ?_⟩
    refine ⟨_, rfl, p, dx, fs, rfl, s1 _ _ hp, nm, _, rfl, _, _, rfl, rfl, rfl, p, h, none, some (h.m + 1), none, some 1, .ok ⟨h.ds, h.l, h.m + 1, h.r, 1⟩, rfl, hA.keep s1, HI.ok (h := ⟨h.ds, h.l, h.m + 1, h.r, 1⟩) ⟨ok.num, R, r1, r8, Nat.le_refl _, one_count R⟩, fun A2 q2 s2 nq2 h2 => ?_⟩
    have s12 := s1.trans s2
    have hA2 := hA.keep s12
    have hp2 := s12 _ _ hp
    have h12 := h1.keep s2
    obtain ⟨d1, f1, y1, hq1, a1, a2, a3, a4, a5, a6, a7, a8, ra⟩ := id h12
    obtain ⟨d2, f2, y2, hq2, b1, b2, b3, b4, b5, b6, b7, b8, rb⟩ := id h2
    refine ⟨_, rfl, _, rfl, q1, d1, f1, _, rfl, hq1, tyH hp2, T.sfC, q1, p, h, h, rfl, h12, hA2, ?_⟩
    rw [eqH_refl]
    have e := eqH_no (h := h) (g := ⟨h.ds, h.l, h.m + 1, h.r, 1⟩) fun z => by have : h.m = h.m + 1 := z.2.2.1; omega
    refine ⟨_, rfl, iteF ⟨_, rfl, _, rfl, q2, d2, f2, _, rfl, hq2, tyH hp2, T.sfC, q2, p, _, h, rfl, h2, hA2, ?_⟩⟩
    rw [e.2]
    refine ⟨_, rfl, iteF ⟨_, rfl, p, T.HC, dx, fs, _, rfl, hp2, T.clHC, T.nBo, l1, _, rfl, q2, T.HC, d2, f2, _, rfl, hq2, T.clHC, T.nBo, b1, rfl, _, rfl, ?_⟩⟩
    rw [decide_eq_true (show V.str (numS h.ds) = V.str (numS (Hs.ds ⟨h.ds, h.l, h.m + 1, h.r, 1⟩)) from rfl)]
    refine iteF ⟨_, rfl, q2, T.HC, d2, f2, _, rfl, hq2, T.clHC, T.nMa, b3, _, rfl, _, _, rfl, rfl, rfl, _, rfl, ?_⟩
    rw [decide_eq_true (show V.int (h.m + 1) = V.int (h.m + 1) from rfl)]
    refine iteF ?_
    refine ⟨_, rfl, q2, T.HC, d2, f2, _, rfl, hq2, T.clHC, T.nNe, b5, rfl, _, rfl, ?_⟩
    rw [decide_eq_true (show V.int ((1 : Nat) : Int) = V.int 1 from rfl)]
    refine iteF ⟨_, rfl, q2, T.HC, d2, f2, _, rfl, hq2, T.clHC, T.nRi, b2, _, rfl, rfl, _, rfl, ?_⟩
    rw [decide_eq_true (show V.str (rgS h.l) = V.str (rgS h.l) from rfl)]
    refine iteF ⟨_, rfl, q2, T.HC, d2, f2, _, rfl, hq2, T.clHC, T.nRo, b4, _, rfl, rfl, _, rfl, ?_⟩
    rw [decide_eq_true (show V.int h.r = V.int h.r from rfl)]
    refine iteF ⟨_, rfl, p, T.HC, dx, fs, _, rfl, hp2, T.clHC, T.nNe, l5, _, rfl, rfl, _, rfl, ?_⟩
    rw [decide_eq_true (show V.int ((h.n : Nat) : Int) = V.int ((h.n : Nat) : Int) from rfl)]
    refine iteF ⟨_, rfl, p, T.HC, dx, fs, _, rfl, hp2, T.clHC, T.nMa, l3, _, rfl, rfl, _, rfl, ?_⟩
    rw [decide_eq_true (show V.int h.m = V.int h.m from rfl)]
    refine iteF ?_
    refine ⟨_, rfl, _, rfl, _, rfl, _, rfl, _, rfl, p, h, rfl, hA2, ok, fun A3 s3 => ⟨true, rfl, iteF ⟨_, rfl, p, h, rfl, hA2.keep s3, ok, fun A4 s4 => ⟨true, rfl, iteF ?_⟩⟩⟩⟩
    have s34 := s3.trans s4
    have s14 := s12.trans s34
    have hp4 := s14 _ _ hp
    refine ⟨_, rfl, p, dx, fs, rfl, hp4, nm, _, rfl, h.l, rfl, hl, fun A5 r5 s5 nr5 hr5 => ?_⟩
    have c1 := one_count R
    have cl : h.l.count true ≤ h.l.length := List.count_le_length
    refine ⟨r5, _, rfl, .inl (SqL.of hr5), 115, h.l.count true, rfl, by rw [nV_len, Rm.sp_len], c1, by omega, ?_⟩
    rw [rep_s]
    refine ⟨small_len (by show 2 ≤ 100000; decide), fun t ht => ?_⟩
    have st := same_new (o := .tup [.int 0, .int 9]) ht
    have s15 := s14.trans s5
    have s16 := s15.trans st
    have bag6 := hbag.keep s16
    have tb : t ≠ b := (hbag.keep s15).off ht
    refine ⟨_, rfl, b, k, 2, rfl, by decide, by decide, bag6, by omega, fun A7 d7 e0 e1 bag7 but7 => ?_⟩
    obtain ⟨rw, hrw, hrr⟩ : ∃ rw : Int, atI [V.int 0, V.int 9] d7 = some (.int rw) ∧ (rw = 0 ∨ rw = 9) := by
      have : d7 = 0 ∨ d7 = 1 := by omega
      rcases this with rfl | rfl
      · exact ⟨0, rfl, .inl rfl⟩
      · exact ⟨9, rfl, .inr rfl⟩
    refine ⟨t, _, d7, _, rfl, rfl, SqT.of (but7.keep _ _ tb upd_same), hrw, ?_⟩
    have hA7 := (hA.keep s16).bt bag6 but7
    have Rs : Ri (List.replicate (h.l.count true) true) := ⟨by rw [List.length_replicate]; omega, List.mem_replicate.mpr ⟨by omega, rfl⟩⟩
    refine ⟨rfl, p, h, some (rgS (List.replicate (h.l.count true) true)), none, some rw, none, .bad "rows", rfl, hA7, HI.rows (l := List.replicate (h.l.count true) true) ok.num Rs (.int rw) ?_, fun A8 dd s8 e8 => ?_⟩
    · rcases hrr with rfl | rfl <;> decide
    refine ⟨true, T.lowH.te, fun _ a0 ha0 => ?_, fun z => Bool.noConfusion z⟩
    refine ⟨_, rfl, rfl, rfl, dd, _, rfl, e8, ?_⟩
    have hA8 := hA7.keep s8
    obtain ⟨dx8, fs8, y8, hp8, _, _, _, _, _, _, _, m8, _⟩ := id hA8
    have but8 : Bt b H A8 := ((Bt.of s16).trans but7).trans (Bt.of s8)
    have bag8 := bag7.keep s8
    refine ⟨_, rfl, rfl, _, rfl, iteT ⟨_, rfl, p, dx8, fs8, rfl, hp8, hn_meth "with_rules" m8 (by decide +kernel), _, rfl, _, rfl, by rw [rgS_len]; exact Nat.le_trans hl (by decide), _, _, rfl, rfl, _, rfl, ite2 (fun c => ?_) (fun c => ?_)⟩⟩
    · have c := of_decide_eq_true c
      rw [rgS_len] at c
      refine ⟨_, rfl, _, _, rfl, rfl, by rw [rgS_len]; exact small_len (by show h.l.length + 1 ≤ _; omega), ?_⟩
      rw [← rgS_o, rgS_app]
      refine ⟨rfl, p, h, some (rgS (h.l ++ [false])), none, none, none, .ok ⟨h.ds, h.l ++ [false], h.m, h.r, h.n⟩, rfl, hA8, HI.ok (h := ⟨h.ds, h.l ++ [false], h.m, h.r, h.n⟩) ⟨ok.num, ⟨by rw [List.length_append]; show h.l.length + 1 ≤ 10; omega, List.mem_append_left _ R.has⟩, r1, r8, n1, by show h.n ≤ (h.l ++ [false]).count true; rw [List.count_append]; omega⟩, fun A9 q9 s9 nq9 h9 => ?_⟩
      obtain ⟨d9, f9, y9, hq9, c1, c2, c3, c4, c5, c6, c7, c8, rc⟩ := id h9
      refine ⟨q9, T.HC, d9, f9, _, rfl, hq9, T.clHC, T.nRo, c4, _, rfl, rfl, ?_⟩
      rw [decide_eq_true (show V.int h.r = V.int h.r from rfl)]
      exact kk _ (bag8.keep s9) (but8.trans (Bt.of s9))
    · refine ⟨_, rfl, rfl, p, h, some (rgS h.l), none, none, none, .ok h, rfl, hA8, HI.ok ok, fun A9 q9 s9 nq9 h9 => ?_⟩
      obtain ⟨d9, f9, y9, hq9, c1, c2, c3, c4, c5, c6, c7, c8, rc⟩ := id h9
      refine ⟨q9, T.HC, d9, f9, _, rfl, hq9, T.clHC, T.nRo, c4, _, rfl, rfl, ?_⟩
      rw [decide_eq_true (show V.int h.r = V.int h.r from rfl)]
      exact kk _ (bag8.keep s9) (but8.trans (Bt.of s9))
end
end K51

namespace K51
open PySem L2 Wm TL Dv Rm Lo Gtl
section
variable {P : Program} {w : World} {K : PySem.W.Frag} {mg : Str → Option Value} {base : Heap}
/-- what is wrong at place j; e is the empty tuple -/
def BadV (e : Addr) (many : Nat) : Nat → V → Prop
  | 0, x => x = .non ∨ (∃ i, x = .int i) ∨ ∃ t : Str, x = .str t ∧ t.length ≤ 100 ∧ ¬ IsNum t
  | 1, x => x = .non ∨ ∃ t : Str, x = .str t ∧ t.length ≤ 100 ∧ ¬ IsRing t
  | 2, x => x = .non ∨ (∃ s, x = .str s) ∨ (∃ b, x = .bl b) ∨ x = .ref e
  | 3, x => x = .non ∨ (∃ b, x = .bl b) ∨ ∃ i : Int, x = .int i ∧ (i < 1 ∨ 8 < i)
  | _, x => x = .non ∨ (∃ b, x = .bl b) ∨ ∃ i : Int, x = .int i ∧ (i < 1 ∨ ((many : Nat) : Int) < i)
def wordsL : List Str := ["box", "ring", "mark", "rows", "need"]
def origL (ds : List Nat) (l : List Bool) : List V := [.str (numS ds), .str (rgS l), .int 7, .int 2, .int 1]
/-- the first that is wrong, and its word -/
def FirstBad (e : Addr) (many : Nat) (os : List V) (i : Nat) (w : Str) (xs : List V) : Prop :=
  xs.length = 5 ∧ (∀ j, i ≤ j → xs[j]? = os[j]?) ∧ ((w = "" ∧ ∀ j : Nat, xs[j]? = os[j]?) ∨ ∃ f x, f < i ∧ wordsL[f]? = some w ∧ xs[f]? = some x ∧ BadV e many f x ∧ ∀ j, j < f → xs[j]? = os[j]?)
theorem FirstBad.skip {e : Addr} {many i : Nat} {os xs : List V} {w : Str} (h : FirstBad e many os i w xs) : FirstBad e many os (i + 1) w xs := by
  obtain ⟨a, b, c⟩ := h
  refine ⟨a, fun j l => b j (by omega), c.imp id ?_⟩
  rintro ⟨f, x, lt, r⟩
  exact ⟨f, x, by omega, r⟩
theorem FirstBad.new {e : Addr} {many i : Nat} {os xs : List V} {w : Str} {y : V} (h : FirstBad e many os i "" xs) (hi : i < 5) (hw : wordsL[i]? = some w) (hy : BadV e many i y) : FirstBad e many os (i + 1) w (xs.set i y) := by
  obtain ⟨a, b, c⟩ := h
  have eq : ∀ j : Nat, xs[j]? = os[j]? := by
    rcases c with ⟨_, c⟩ | ⟨f, x, lt, e, _⟩
    · exact c
    · exfalso
      have : ("" : Str) ∈ wordsL := List.mem_of_getElem? e
      exact absurd this (by decide +kernel)
  refine ⟨by rw [List.length_set]; exact a, fun j l => ?_, .inr ⟨i, y, by omega, hw, ?_, hy, fun j l => ?_⟩⟩
  · rw [List.getElem?_set_ne (by omega)]; exact eq j
  · rw [List.getElem?_set_self (by omega)]
  · rw [List.getElem?_set_ne (by omega)]; exact eq j
theorem FirstBad.more {e : Addr} {many i : Nat} {os xs : List V} {w : Str} {y : V} (h : FirstBad e many os i w xs) (hw : w ≠ "") : FirstBad e many os (i + 1) w (xs.set i y) := by
  obtain ⟨a, b, c⟩ := h
  rcases c with ⟨z, _⟩ | ⟨f, x, lt, e1, e2, e3, e4⟩
  · exact absurd z hw
  refine ⟨by rw [List.length_set]; exact a, fun j l => ?_, .inr ⟨f, x, by omega, e1, ?_, e3, fun j l => ?_⟩⟩
  · rw [List.getElem?_set_ne (by omega)]; exact b j (by omega)
  · rw [List.getElem?_set_ne (by omega)]; exact e2
  · rw [List.getElem?_set_ne (by omega)]; exact e4 j l
theorem ixN_nat {n j : Nat} (h : j < n) : ixN n (j : Int) = some j := by
  have := atI_nat (xs := List.range n) (j := j) (v := j) (List.getElem?_range h)
  unfold atI at this
  rw [List.length_range] at this
  cases c : ixN n (j : Int) with
  | none => rw [c] at this; cases this
  | some k =>
    rw [c] at this
    have this : (List.range n)[k]? = some j := this
    obtain ⟨hk, e⟩ := List.getElem?_eq_some_iff.mp this
    rw [List.getElem_range] at e
    rw [e]
theorem no_num {t : Str} (h : ∀ ds, Num ds → t ≠ numS ds) : ¬ IsNum t := fun ⟨ds, N, e⟩ => h ds N e
theorem not0 : ¬ IsNum ("0" : Str) := no_num fun ds N e => by
  have e1 : ("0" : Str) = numS [0] := by decide +kernel
  have := numS_inj (e1.symm.trans e)
  subst this
  have := N.dig 0 List.mem_cons_self
  omega
theorem notE : ¬ IsNum ("" : Str) := no_num fun ds N e => by
  have e1 : ("" : Str) = numS [] := by decide +kernel
  have := numS_inj (e1.symm.trans e)
  subst this
  have := N.pos
  exact absurd this (by decide)
theorem not999 : ¬ IsNum ("999" : Str) := no_num fun ds N e => by
  have e1 : ("999" : Str) = numS [9, 9, 9] := by decide +kernel
  have := numS_inj (e1.symm.trans e)
  subst this
  have := N.sum
  exact absurd this (by decide)
theorem notR0 : ¬ IsRing ("" : Str) := fun z => absurd z.2.1 (by decide +kernel)
theorem notRoo : ¬ IsRing ("oo" : Str) := fun z => absurd z.2.1 (by decide +kernel)
theorem notRsx : ¬ IsRing ("sx" : Str) := fun z => by
  have := z.2.2 120 (by decide +kernel)
  omega
theorem notR11 : ¬ IsRing (rgS (List.replicate 11 true)) := fun z => absurd z.1 (by decide +kernel)
theorem got {H H1 : Hp} {p : Addr} {o : HO} (x : upd H p o = H1) (n : H p = none) : Same H H1 ∧ H1 p = some o := by
  subst x
  exact ⟨same_new n, upd_same⟩
/-- the menus -/
structure Menus (K : PySem.W.Frag) (H : Hp) (ml wd e : Addr) (many : Nat) : Prop where
  ex : ∃ ts : List Addr, H ml = some (.lst (ts.map V.ref)) ∧ ts.length = 5 ∧ ∀ (j : Nat) (t : Addr), ts[j]? = some t → ∃ m, SqT K H t m ∧ 1 ≤ m.length ∧ m.length ≤ 5 ∧ ∀ y ∈ m, BadV e many j y
  wd : SqT K H wd (wordsL.map V.str)
  e : SqT K H e []
theorem Menus.k {H H' : Hp} {ml wd e : Addr} {many : Nat} (m : Menus K H ml wd e many) (kt : Kt K H H') (h : ∀ o, H ml = some o → H' ml = some o) : Menus K H' ml wd e many := by
  obtain ⟨ts, a, b, c⟩ := m.ex
  exact ⟨⟨ts, h _ a, b, fun j t e => let ⟨m, x, y⟩ := c j t e; ⟨m, kt _ _ x, y⟩⟩, kt _ _ m.wd, kt _ _ m.e⟩
theorem fb_hi {A : Hp} {e : Addr} {ds : List Nat} {l : List Bool} {w : Str} {x0 x1 x2 x3 x4 : V} (h : FirstBad e (l.count true) (origL ds l) 5 w [x0, x1, x2, x3, x4]) (he : SqT K A e []) (N : Num ds) (R : Ri l) :
    (w = "" ∧ x0 = .str (numS ds) ∧ x1 = .str (rgS l) ∧ x2 = .int 7 ∧ x3 = .int 2 ∧ x4 = .int 1) ∨ (w ∈ wordsL ∧ HI K A x0 x1 x2 x3 x4 (.bad w)) := by
  obtain ⟨_, _, c⟩ := h
  have noI : ∀ {i : Int} {T : V}, T = .int i → NoStr K A T := fun {i T} h => by
    subst h
    exact ⟨"int", fun H' _ => .base (.int i), kit_ty (by decide +kernel)⟩
  have noN : NoStr K A .non := ⟨"NoneType", fun H' _ => .base .non, kit_ty (by decide +kernel)⟩
  rcases c with ⟨z, c⟩ | ⟨f, x, lt, e1, e2, e3, e4⟩
  · exact .inl ⟨z, Option.some.inj (c 0), Option.some.inj (c 1), Option.some.inj (c 2), Option.some.inj (c 3), Option.some.inj (c 4)⟩
  refine .inr ⟨List.mem_of_getElem? e1, ?_⟩
  have th : ∀ {lo hi : Int} {y : V}, (y = .non ∨ (∃ b, y = .bl b) ∨ ∃ i : Int, y = .int i ∧ (i < lo ∨ hi < i)) → ∃ o, Thing K A y o ∧ within lo hi o = false := fun {lo hi y} h => by
    rcases h with rfl | ⟨b, rfl⟩ | ⟨i, rfl, h⟩
    · exact ⟨_, .non, rfl⟩
    · exact ⟨_, .bl b, rfl⟩
    · refine ⟨_, .int i, ?_⟩
      show (decide (lo ≤ i) && decide (i ≤ hi)) = false
      rcases h with h | h
      · rw [decide_eq_false (by omega : ¬ lo ≤ i)]; rfl
      · rw [decide_eq_false (by omega : ¬ i ≤ hi)]; exact Bool.and_false _
  match f, lt with
  | 0, _ =>
    cases e1
    cases e2
    rcases e3 with rfl | ⟨i, rfl⟩ | b
    · exact .box (.inr noN)
    · exact .box (.inr (noI rfl))
    · exact .box (.inl b)
  | 1, _ =>
    cases e1
    cases e2
    have q0 : x0 = .str (numS ds) := Option.some.inj (e4 0 (by decide))
    subst q0
    rcases e3 with rfl | b
    · exact .ring N (.inr noN)
    · exact .ring N (.inl b)
  | 2, _ =>
    cases e1
    cases e2
    have q0 : x0 = .str (numS ds) := Option.some.inj (e4 0 (by decide))
    have q1 : x1 = .str (rgS l) := Option.some.inj (e4 1 (by decide))
    subst q0 q1
    rcases e3 with rfl | ⟨s, rfl⟩ | ⟨b, rfl⟩ | rfl
    · exact .mark N R .non
    · exact .mark N R (.str s)
    · exact .mark N R (.bl b)
    · exact .mark N R (.emp he)
  | 3, _ =>
    cases e1
    cases e2
    have q0 : x0 = .str (numS ds) := Option.some.inj (e4 0 (by decide))
    have q1 : x1 = .str (rgS l) := Option.some.inj (e4 1 (by decide))
    have q2 : x2 = .int 7 := Option.some.inj (e4 2 (by decide))
    subst q0 q1 q2
    obtain ⟨o, a, b⟩ := th e3
    exact .rows N R a b
  | 4, _ =>
    cases e1
    cases e2
    have q0 : x0 = .str (numS ds) := Option.some.inj (e4 0 (by decide))
    have q1 : x1 = .str (rgS l) := Option.some.inj (e4 1 (by decide))
    have q2 : x2 = .int 7 := Option.some.inj (e4 2 (by decide))
    have q3 : x3 = .int 2 := Option.some.inj (e4 3 (by decide))
    subst q0 q1 q2 q3
    obtain ⟨o, a, b⟩ := th e3
    exact .need N R (by decide) (by decide) a b
theorem ok_wwrong (T : Txt K mg) : FnOk P w K mg base CX0 9 T.a_wwrong T.d_wwrong ["_law_state", "_law_box", "_law_text_here", "_law_many"] (sp_wwrong K T.C T.HC) := by
  refine T.F_wwrong.ok sc_wwrong (fun vs H Q E h => ?_) (fun cdv A outer s H vs Q E hr h => ?_)
  · obtain ⟨b, k0, ds, l, rfl, _⟩ := h
    rfl
  · obtain ⟨b, k0, ds, l, rfl, hbag, hk, N, R, kk⟩ := h
    have hl := R.len
    refine ⟨_, (pss_cons (ps_set (i := 4) sc_wwrong.nd rfl (Or.inl rfl) (pe_lst (pa_cons (pv 1) (pa_cons (pv 2) (pa_cons pe_int (pa_cons pe_int (pa_cons pe_int pa_nil)))))))
      (pss_cons (ps_set (i := 5) sc_wwrong.nd rfl (Or.inl rfl) (pe_lst (pa_cons (pe_tup (pa_cons pe_non (pa_cons pe_str (pa_cons pe_int (pa_cons pe_str (pa_cons pe_str pa_nil)))))) (pa_cons (pe_tup (pa_cons pe_non (pa_cons pe_str (pa_cons pe_str (pa_cons pe_str (pa_cons (pe_op Xe.op_mul1 pe_str pe_int) pa_nil)))))) (pa_cons (pe_tup (pa_cons pe_non (pa_cons pe_str (pa_cons pe_bl (pa_cons (pe_tup pa_nil) pa_nil))))) (pa_cons (pe_tup (pa_cons pe_int (pa_cons pe_int (pa_cons pe_bl (pa_cons pe_non (pa_cons (pe_un un_neg pe_int) pa_nil)))))) (pa_cons (pe_tup (pa_cons pe_int (pa_cons (pe_op op_add (pv 3) pe_int) (pa_cons pe_bl (pa_cons pe_non (pa_cons (pe_un un_neg pe_int) pa_nil)))))) pa_nil)))))))
      (pss_cons (ps_set (i := 6) sc_wwrong.nd rfl (Or.inl rfl) (pe_tup (pa_cons pe_str (pa_cons pe_str (pa_cons pe_str (pa_cons pe_str (pa_cons pe_str pa_nil)))))))
      (pss_cons (ps_set (i := 7) sc_wwrong.nd rfl (Or.inl rfl) pe_str)
      (pss_cons (ps_for PassesOwn.never rfl (pi_range1 (by rfl) T.z_range (pa_cons pe_int pa_nil)) (pg_name (i := 8) sc_wwrong.nd rfl (Or.inl rfl))
        (pss_one (ps_if (pt_cmpR op_eq (pe_call (ok_draw T) (hr.mono (by decide)) (by rfl) T.g_draw T.F_draw.kp T.b_draw .nil pass0 (pa_cons (pv 0) (pa_cons pe_int pa_nil))) pe_int (nomark _))
          (pss_cons (ps_asg (pe_ix ix_tup (pe_ix ix_list (pv 5) (pv 8) (fun _ _ => rfl)) (pe_call (ok_draw T) (hr.mono (by decide)) (by rfl) T.g_draw T.F_draw.kp T.b_draw .nil pass0 (pa_cons (pv 0) (pa_cons (pe_callB call_len_seq (by rfl) T.z_len PySem.boot_len (pa_cons (pe_ix ix_list (pv 5) (pv 8) (fun _ _ => rfl)) pa_nil)) pa_nil))) (fun _ _ => rfl)) (pg_sub (pv 4) (pv 8) set_list))
          (pss_one (ps_set (i := 7) sc_wwrong.nd rfl (Or.inl rfl) (pe_ifExp (pt_cmpR op_eq (pv 7) pe_str (nomark _)) (pe_ix ix_tup (pv 6) (pv 8) (fun _ _ => rfl)) (pv 7)))))
          pss_nil)))
      (C8.pss_cut (ps_set (i := 9) sc_wwrong.nd rfl (Or.inl rfl) (pe_call (ok_made T) (hr.mono (by decide)) (by rfl) T.g_made T.F_made.kp T.b_made .nil pass0 (pa_cons (pe_ix ix_list (pv 4) pe_int (fun _ _ => rfl)) (pa_cons (pe_ix ix_list (pv 4) pe_int (fun _ _ => rfl)) (pa_cons (pe_ix ix_list (pv 4) pe_int (fun _ _ => rfl)) (pa_cons (pe_ix ix_list (pv 4) pe_int (fun _ _ => rfl)) (pa_cons (pe_ix ix_list (pv 4) pe_int (fun _ _ => rfl)) pa_nil)))))))
      (pss_cons (ps_if (pt_cmpR op_ne (pe_ix ix_tup (pv 9) pe_int (fun _ _ => rfl)) (pv 7) (nomark _))
        (pss_one (ps_ret pe_bl))
        pss_nil)
      (pss_cons (ps_set (i := 10) sc_wwrong.nd rfl (Or.inl rfl) (pe_ix ix_tup (pe_tup (pa_cons pe_int (pa_cons pe_int (pa_cons pe_bl (pa_cons pe_non (pa_cons (pe_un un_neg pe_int) pa_nil)))))) (pe_call (ok_draw T) (hr.mono (by decide)) (by rfl) T.g_draw T.F_draw.kp T.b_draw .nil pass0 (pa_cons (pv 0) (pa_cons pe_int pa_nil))) (fun _ _ => rfl)))
      (pss_cons (ps_set (i := 11) sc_wwrong.nd rfl (Or.inl rfl) pe_str)
      (pss_cons (Ta.ps_try_ass (W := fun _ _ _ _ => False) rfl rfl sc_wwrong.nd takes0 (fun U pn xe tk _ => (pss_one (ps_expr (pe_callS (ok_guarded_ring T) (hr.mono (by decide)) (by rfl) T.g_guarded_ring T.F_guarded_ring.kp T.b_guarded_ring (fun σ => passAt tk σ) (by exact (pa_cons (pe_ifExp (pt_cmpR op_eq (pv 7) pe_str (nomark _)) (pv 10) pe_int) (pa_cons (pe_ifExp (pt_cmpR op_ne (pv 7) pe_str (nomark _)) pe_int pe_int) pa_nil))))))) (Ta.Hds.cons (h := ⟨Value.ref T.CH, 12, _⟩) rfl rfl ⟨rfl, by decide, Or.inl T.lowH.gC⟩ (fun a oe cls d pn hz hf => (pss_one (ps_set (i := 11) sc_wwrong.nd rfl (Or.inl rfl) (pe_byLowH T.lowH hz hf (pv 12))))) Ta.Hds.nil))
      (pss_one (ps_ret (pe_cmpR op_eq (pv 11) (pe_ifExp (pt_cmpR op_eq (pv 7) pe_str (nomark _)) pe_str pe_str) (nomark _)))))))))))))), ?_⟩
    refine ⟨_, rfl, _, rfl, small_len (by show 5 ≤ 100000; decide), fun g hg => ?_⟩
    generalize x1 : upd H g _ = H1
    obtain ⟨s1, f1⟩ := got x1 hg
    refine ⟨small_len (by show 5 ≤ 100000; decide), fun t0 ht0 => ?_⟩
    generalize x2 : upd H1 t0 _ = H2
    obtain ⟨s2, f2⟩ := got x2 ht0
    refine ⟨115, 11, rfl, rfl, by decide, by decide, ?_⟩
    rw [rep_s]
    refine ⟨small_len (by show 5 ≤ 100000; decide), fun t1 ht1 => ?_⟩
    generalize x3 : upd H2 t1 _ = H3
    obtain ⟨s3, f3⟩ := got x3 ht1
    refine ⟨small_len (by show 0 ≤ 100000; decide), fun e he => ?_⟩
    generalize x4 : upd H3 e _ = H4
    obtain ⟨s4, f4⟩ := got x4 he
    refine ⟨small_len (by show 4 ≤ 100000; decide), fun t2 ht2 => ?_⟩
    generalize x5 : upd H4 t2 _ = H5
    obtain ⟨s5, f5⟩ := got x5 ht2
    refine ⟨_, rfl, small_len (by show 5 ≤ 100000; decide), fun t3 ht3 => ?_⟩
    generalize x6 : upd H5 t3 _ = H6
    obtain ⟨s6, f6⟩ := got x6 ht3
    refine ⟨_, rfl, _, _, rfl, rfl, _, rfl, small_len (by show 5 ≤ 100000; decide), fun t4 ht4 => ?_⟩
    generalize x7 : upd H6 t4 _ = H7
    obtain ⟨s7, f7⟩ := got x7 ht4
    refine ⟨small_len (by show 5 ≤ 100000; decide), fun ml hml => ?_⟩
    generalize x8 : upd H7 ml _ = H8
    obtain ⟨s8, f8⟩ := got x8 hml
    refine ⟨small_len (by show 5 ≤ 100000; decide), fun wd hwd => ?_⟩
    generalize x9 : upd H8 wd _ = H9
    obtain ⟨s9, f9⟩ := got x9 hwd
    clear x1 x2 x3 x4 x5 x6 x7 x8 x9
    have s89 := s9
    have s79 := s8.trans s89
    have s69 := s7.trans s79
    have s59 := s6.trans s69
    have s49 := s5.trans s59
    have s39 := s4.trans s49
    have s29 := s3.trans s39
    have s19 := s2.trans s29
    have sH9 := s1.trans s19
    have M : Menus K H9 ml wd e (l.count true) := by
      refine ⟨⟨[t0, t1, t2, t3, t4], s89 _ _ f8, rfl, fun j t ej => ?_⟩, SqT.of f9, SqT.of (s49 _ _ f4)⟩
      match j, ej with
      | 0, ej =>
        cases ej
        refine ⟨_, SqT.of (s29 _ _ f2), by decide, by decide, fun y my => ?_⟩
        simp only [List.mem_cons, List.not_mem_nil, or_false] at my
        rcases my with rfl | rfl | rfl | rfl | rfl
        · exact .inl rfl
        · exact .inr (.inr ⟨_, rfl, by decide, not0⟩)
        · exact .inr (.inl ⟨_, rfl⟩)
        · exact .inr (.inr ⟨_, rfl, by decide, notE⟩)
        · exact .inr (.inr ⟨_, rfl, by decide, not999⟩)
      | 1, ej =>
        cases ej
        refine ⟨_, SqT.of (s39 _ _ f3), by decide, by decide, fun y my => ?_⟩
        simp only [List.mem_cons, List.not_mem_nil, or_false] at my
        rcases my with rfl | rfl | rfl | rfl | rfl
        · exact .inl rfl
        · exact .inr ⟨_, rfl, by decide, notR0⟩
        · exact .inr ⟨_, rfl, by decide, notRoo⟩
        · exact .inr ⟨_, rfl, by decide, notRsx⟩
        · exact .inr ⟨_, rfl, by decide, notR11⟩
      | 2, ej =>
        cases ej
        refine ⟨_, SqT.of (s59 _ _ f5), (by show 1 ≤ 4; decide), (by show 4 ≤ 5; decide), fun y my => ?_⟩
        simp only [List.mem_cons, List.not_mem_nil, or_false] at my
        rcases my with rfl | rfl | rfl | rfl
        · exact .inl rfl
        · exact .inr (.inl ⟨_, rfl⟩)
        · exact .inr (.inr (.inl ⟨_, rfl⟩))
        · exact .inr (.inr (.inr rfl))
      | 3, ej =>
        cases ej
        refine ⟨_, SqT.of (s69 _ _ f6), by decide, by decide, fun y my => ?_⟩
        simp only [List.mem_cons, List.not_mem_nil, or_false] at my
        rcases my with rfl | rfl | rfl | rfl | rfl
        · exact .inr (.inr ⟨_, rfl, .inl (by decide)⟩)
        · exact .inr (.inr ⟨_, rfl, .inr (by decide)⟩)
        · exact .inr (.inl ⟨_, rfl⟩)
        · exact .inl rfl
        · exact .inr (.inr ⟨_, rfl, .inl (by decide)⟩)
      | 4, ej =>
        cases ej
        refine ⟨_, SqT.of (s79 _ _ f7), (by show 1 ≤ 5; decide), (by show 5 ≤ 5; decide), fun y my => ?_⟩
        simp only [List.mem_cons, List.not_mem_nil, or_false] at my
        rcases my with rfl | rfl | rfl | rfl | rfl
        · exact .inr (.inr ⟨_, rfl, .inl (by decide)⟩)
        · exact .inr (.inr ⟨_, rfl, .inr (by omega)⟩)
        · exact .inr (.inl ⟨_, rfl⟩)
        · exact .inl rfl
        · exact .inr (.inr ⟨_, rfl, .inl (by decide)⟩)
      | j + 5, ej => cases ej
    have f19 := s19 _ _ f1
    have gb : g ≠ b := hbag.off hg
    have sH7 := (((((s1.trans s2).trans s3).trans s4).trans s5).trans s6).trans s7
    have mlb : ml ≠ b := (hbag.keep sH7).off hml
    have mlg : ml ≠ g := fun z => by
      have q := (((((s2.trans s3).trans s4).trans s5).trans s6).trans s7) _ _ f1
      rw [← z, hml] at q
      cases q
    have bag9 := hbag.keep sH9
    refine ⟨_, rfl, by decide, by decide, ?_⟩
    refine for_range (fun i σ A => ∃ (w : Str) (xs : List V) (vk : Option V), σ = [some (.ref b), some (.str (numS ds)), some (.str (rgS l)), some (.int ((l.count true : Nat) : Int)), some (.ref g), some (.ref ml), some (.ref wd), some (.str w), vk, none, none, none, none] ∧ A g = some (.lst xs) ∧ FirstBad e (l.count true) (origL ds l) i w xs ∧ Bg A b (k0 + 2 * i) ∧ Bt b H A ∧ Menus K A ml wd e (l.count true))
      ⟨"", _, none, rfl, f19, ⟨rfl, fun _ _ => rfl, .inl ⟨rfl, fun _ => rfl⟩⟩, bag9, Bt.of sH9, M⟩ (fun i σ A hi hP => ?_) (fun σ A hP => ?_)
    · obtain ⟨w, xs, vk, rfl, hgA, fb, bag, but, M⟩ := hP
      have hi : i < 5 := hi
      refine ⟨_, rfl, b, k0 + 2 * i, 3, rfl, by decide, by decide, bag, by omega, fun A1 d1 e0 e1 bag1 but1 => ?_⟩
      refine ⟨rfl, _, rfl, ite2 (fun c => ?_) (fun c => ?_)⟩
      · have hg1 := but1.keep _ _ gb hgA
        have M1 := M.k (kt_bt bag but1) fun o h => but1.keep _ _ mlb h
        obtain ⟨ts, hml1, lts, tj⟩ := M1.ex
        obtain ⟨t, et⟩ : ∃ t, ts[i]? = some t := ⟨ts[i], List.getElem?_eq_getElem (by omega)⟩
        obtain ⟨m, hT, m1, m5, bad⟩ := tj i t et
        have et2 : (ts.map V.ref)[i]? = some (.ref t) := by rw [List.getElem?_map, et]; rfl
        refine ⟨_, rfl, _, rfl, ml, _, ((i : Nat) : Int), _, rfl, (show V.int (0 + ((i : Nat) : Int)) = V.int ((i : Nat) : Int) by rw [Int.zero_add]), SqL.of hml1, atI_nat et2, ?_⟩
        refine ⟨_, rfl, _, rfl, _, rfl, ml, _, ((i : Nat) : Int), _, rfl, (show V.int (0 + ((i : Nat) : Int)) = V.int ((i : Nat) : Int) by rw [Int.zero_add]), SqL.of hml1, atI_nat et2, t, _, rfl, .inr hT, b, _, _, rfl, by omega, by omega, bag1, by omega, fun A2 d2 e2 e3 bag2 but2 => ?_⟩
        have kt2 : Kt K A1 A2 := kt_bt bag1 but2
        obtain ⟨y, ey, my⟩ : ∃ y, atI m d2 = some y ∧ y ∈ m := by
          obtain ⟨n2, rfl⟩ : ∃ n2 : Nat, d2 = (n2 : Nat) := ⟨d2.toNat, by omega⟩
          have h2 : n2 < m.length := by omega
          exact ⟨m[n2], atI_nat (List.getElem?_eq_getElem h2), List.getElem_mem h2⟩
        refine ⟨t, m, d2, y, rfl, rfl, kt2 _ _ hT, ey, ?_⟩
        have hg2 := but2.keep _ _ gb hg1
        have lx := fb.1
        refine ⟨_, rfl, _, rfl, g, xs, ((i : Nat) : Int), i, rfl, (show V.int (0 + ((i : Nat) : Int)) = V.int ((i : Nat) : Int) by rw [Int.zero_add]), hg2, ixN_nat (by omega), ?_⟩
        have but12 := but.trans (but1.trans but2)
        have M3 : Menus K (upd A2 g (.lst (xs.set i y))) ml wd e (l.count true) := (M1.k kt2 fun o h => but2.keep _ _ mlb h).k (Kt.lst hg2) fun o h => by rw [upd_ne mlg]; exact h
        have bag3 : Bg (upd A2 g (.lst (xs.set i y))) b (k0 + 2 * i + 1 + 1) := hbag.put hg but12 bag2
        have but3 : Bt b H (upd A2 g (.lst (xs.set i y))) := but12.put hg
        have wi : wordsL[i]? = some wordsL[i] := List.getElem?_eq_getElem (by show i < 5; omega)
        refine ⟨_, rfl, rfl, _, rfl, ite2 (fun c2 => ?_) (fun c2 => ?_)⟩
        · have ew : w = "" := V.str.inj (of_decide_eq_true c2)
          subst ew
          refine ⟨_, rfl, _, rfl, wd, _, ((i : Nat) : Int), .str wordsL[i], rfl, (show V.int (0 + ((i : Nat) : Int)) = V.int ((i : Nat) : Int) by rw [Int.zero_add]), M3.wd, atI_nat (by rw [List.getElem?_map, wi]; rfl), ?_⟩
          exact ⟨_, _, _, rfl, upd_same, fb.new hi wi (bad y my), bag3, but3, M3⟩
        · have ew : w ≠ "" := fun z => c2 (decide_eq_true (by rw [z]))
          exact ⟨_, rfl, _, _, _, rfl, upd_same, fb.more ew, bag3, but3, M3⟩
      · exact ⟨w, xs, _, rfl, but1.keep _ _ gb hgA, fb.skip, bag1.mono (by omega), but.trans but1, M.k (kt_bt bag but1) fun o h => but1.keep _ _ mlb h⟩
    · obtain ⟨w, xs, vk, rfl, hgA, fb, bag, but, M⟩ := hP
      have lx := fb.1
      obtain ⟨y0, y1, y2, y3, y4, rfl⟩ : ∃ y0 y1 y2 y3 y4, xs = [y0, y1, y2, y3, y4] := match xs, lx with | [y0, y1, y2, y3, y4], _ => ⟨y0, y1, y2, y3, y4, rfl⟩
      have hi := fb_hi fb M.e N R
      refine ⟨fun σ B => ∃ (u : Addr) (z : V), σ = [some (.ref b), some (.str (numS ds)), some (.str (rgS l)), some (.int ((l.count true : Nat) : Int)), some (.ref g), some (.ref ml), some (.ref wd), some (.str w), vk, some (.ref u), none, none, none] ∧ B u = some (.tup [.str w, z]) ∧ Bg B b (k0 + 10) ∧ Bt b H B, ?_, ?_⟩
      · have hS := SqL.of (K := K) hgA
        refine ⟨_, rfl, g, _, 0, _, rfl, rfl, hS, atI_nat (j := 0) rfl, _, rfl, g, _, 1, _, rfl, rfl, hS, atI_nat (j := 1) rfl, _, rfl, g, _, 2, _, rfl, rfl, hS, atI_nat (j := 2) rfl, _, rfl, g, _, 3, _, rfl, rfl, hS, atI_nat (j := 3) rfl, _, rfl, g, _, 4, _, rfl, rfl, hS, atI_nat (j := 4) rfl, ?_⟩
        rcases hi with ⟨rfl, rfl, rfl, rfl, rfl, rfl⟩ | ⟨mw, hi⟩
        · refine ⟨_, _, _, _, _, .ok ⟨ds, l, 7, 2, 1⟩, rfl, HI.ok (h := ⟨ds, l, 7, 2, 1⟩) ⟨N, R, (by decide : (1 : Int) ≤ 2), (by decide : (2 : Int) ≤ 8), Nat.le_refl _, one_count R⟩, fun B u q s nq hB hu => ?_⟩
          exact ⟨u, _, rfl, hu, bag.keep s, but.trans (Bt.of s)⟩
        · refine ⟨_, _, _, _, _, .bad w, rfl, hi, fun z => ?_, fun B u s hu => ?_⟩
          · subst z
            exact absurd mw (by decide +kernel)
          · exact ⟨u, _, rfl, hu, bag.keep s, but.trans (Bt.of s)⟩
      rintro σ B ⟨u, z, rfl, hu, bagB, butB⟩
      refine ⟨_, rfl, u, _, 0, _, rfl, rfl, SqT.of hu, atI_nat (j := 0) rfl, _, rfl, rfl, _, rfl, ?_⟩
      rw [decide_eq_true (show V.str w = V.str w from rfl)]
      refine iteF ⟨_, rfl, small_len (by show 5 ≤ 100000; decide), fun t5 ht5 => ?_⟩
      generalize x1 : upd B t5 _ = B1
      obtain ⟨s1', g5⟩ := got x1 ht5
      have bag1 := bagB.keep s1'
      have tb : t5 ≠ b := bagB.off ht5
      refine ⟨_, rfl, b, _, 5, rfl, by decide, by decide, bag1, by omega, fun B2 d2 e0 e1 bag2 but2 => ?_⟩
      have g52 := but2.keep _ _ tb g5
      obtain ⟨y, ey, oy⟩ : ∃ y, atI [V.int 0, .int 11, .bl true, .non, .int (-1)] d2 = some y ∧ ∃ o, (∀ A : Hp, Thing K A y o) ∧ within 1 10 o = false := by
        have : d2 = 0 ∨ d2 = 1 ∨ d2 = 2 ∨ d2 = 3 ∨ d2 = 4 := by omega
        rcases this with rfl | rfl | rfl | rfl | rfl
        · exact ⟨_, rfl, _, fun _ => .int 0, by decide⟩
        · exact ⟨_, rfl, _, fun _ => .int 11, by decide⟩
        · exact ⟨_, rfl, _, fun _ => .bl true, rfl⟩
        · exact ⟨_, rfl, _, fun _ => .non, rfl⟩
        · exact ⟨_, rfl, _, fun _ => .int (-1), by decide⟩
      refine ⟨t5, _, d2, y, rfl, rfl, SqT.of g52, ey, ?_⟩
      have butF := (butB.trans (Bt.of s1')).trans but2
      obtain ⟨o, ho, wo⟩ := oy
      refine ⟨_, rfl, rfl, _, rfl, ite2 (fun c => ?_) (fun c => ?_)⟩
      · have c' := of_decide_eq_true c
        refine ⟨_, rfl, _, rfl, rfl, _, rfl, ?_⟩
        rw [decide_eq_true c']
        refine iteF ⟨_, _, rfl, .inl ⟨o, ho _, wo, fun B3 dd s3 e3 => ?_⟩⟩
        refine ⟨true, T.lowH.te, fun _ a0 ha0 => ?_, fun z => Bool.noConfusion z⟩
        refine ⟨_, rfl, rfl, rfl, dd, _, rfl, e3, ?_⟩
        refine ⟨_, rfl, _, rfl, rfl, _, rfl, ?_⟩
        rw [decide_eq_true c']
        refine iteT ⟨rfl, ?_⟩
        rw [decide_eq_true (show V.str "seekers" = V.str "seekers" from rfl)]
        exact kk _ _ (bag2.keep s3) (butF.trans (Bt.of s3))
      · have c' : decide _ = false := decide_eq_false fun z => c (decide_eq_true z)
        refine ⟨_, rfl, rfl, _, rfl, ?_⟩
        rw [c']
        refine iteT ⟨_, _, rfl, .inr (.inl ⟨4, some 5, rfl, by decide, by decide, .int 5, by decide, fun B3 dd s3 e3 => ?_⟩)⟩
        refine ⟨true, T.lowH.te, fun _ a0 ha0 => ?_, fun z => Bool.noConfusion z⟩
        refine ⟨_, rfl, rfl, rfl, dd, _, rfl, e3, ?_⟩
        refine ⟨_, rfl, _, rfl, rfl, _, rfl, ?_⟩
        rw [c']
        refine iteF ⟨rfl, ?_⟩
        rw [decide_eq_true (show V.str "need" = V.str "need" from rfl)]
        exact kk _ _ (bag2.keep s3) (butF.trans (Bt.of s3))
end
end K51

namespace K51
open PySem L2 Wm TL Dv Rm Lo Gtl
section
variable {P : Program} {w : World} {K : PySem.W.Frag} {mg : Str → Option Value} {base : Heap}
theorem prs_len {l : List Bool} {n : Nat} : ∀ os : List Ft, (prs l n os).length ≤ os.length * os.length
  | [] => Nat.le_refl _
  | f :: r => by
    show (((r.filter fun g => sil l n [f, g]).map (fun g => [f, g])) ++ prs l n r).length ≤ (r.length + 1) * (r.length + 1)
    rw [List.length_append, List.length_map]
    have a := List.length_filter_le (fun g => sil l n [f, g]) r
    have b := prs_len (l := l) (n := n) r
    rw [Nat.add_mul, Nat.mul_add, Nat.mul_one, Nat.one_mul]
    omega
theorem lots_le {l : List Bool} {n : Nat} (hl : l.length ≤ 10) : (lots l n).length ≤ 600 := by
  have l22 := allF_le hl
  have a : (singles l n).length ≤ 22 := Nat.le_trans (List.length_filter_le _ _) l22
  have b : (others l n).length ≤ 22 := Nat.le_trans (List.length_filter_le _ _) l22
  have c := prs_len (l := l) (n := n) (others l n)
  have d : (others l n).length * (others l n).length ≤ 22 * 22 := Nat.mul_le_mul b b
  unfold lots
  rw [List.length_append, List.length_map]
  omega
def headD (lot : List Ft) : PyData := match lot with
  | f :: _ => ftD f
  | [] => .none
theorem lots_heads (l : List Bool) (n : Nat) : ((lots l n).filter fun lot => decide (lot.length = 1)).map headD = (singles l n).map ftD := by
  unfold lots
  rw [List.filter_append, List.filter_eq_self.mpr (fun lot m => by
    obtain ⟨f, _, rfl⟩ := List.mem_map.mp m
    rfl), List.filter_eq_nil_iff.mpr (fun lot m => by
    obtain ⟨f, g, rfl, _⟩ := prs_sil m
    exact Bool.false_ne_true), List.append_nil, List.map_map]
  rfl
theorem within_sil {l : List Bool} {n : Nat} {fs : List Ft} (hl : ∀ f ∈ fs, f.2 ≤ l.length) (hn : n ≤ l.count true) : ((lots l n).any fun lot => lot.all fun f => decide (f ∈ fs)) = sil l n fs := by
  have e := lots_iff hl hn
  cases c : sil l n fs with
  | true =>
    obtain ⟨lot, m, h⟩ := e.mp c
    exact List.any_eq_true.mpr ⟨lot, m, List.all_eq_true.mpr fun f mf => decide_eq_true (h f mf)⟩
  | false =>
    refine List.any_eq_false.mpr fun lot m => fun z => ?_
    have := e.mpr ⟨lot, m, fun f mf => of_decide_eq_true (List.all_eq_true.mp z f mf)⟩
    rw [c] at this
    cases this
theorem ok_law (T : Txt K mg) : FnOk P w K mg base CX0 13 T.a_law T.d_law ["_law_script"] (sp_law K) := by
  refine T.F_law.ok sc_law (fun vs H Q E h => ?_) (fun cdv A outer s H vs Q E hr h => ?_)
  · obtain ⟨a, ns, rfl, _⟩ := h
    rfl
  · obtain ⟨a, ns, rfl, ha, hn, k⟩ := h
    refine ⟨_, (pss_cons (ps_set (i := 1) sc_law.nd rfl (Or.inl rfl) (pe_call (ok_open T) (hr.mono (by decide)) (by rfl) T.g_open T.F_open.kp T.b_open .nil pass0 (pa_cons (pv 0) pa_nil)))
      (pss_cons (ps_set (i := 2) sc_law.nd rfl (Or.inl rfl) (pe_call (ok_text T) (hr.mono (by decide)) (by rfl) T.g_text T.F_text.kp T.b_text .nil pass0 (pa_cons (pv 1) pa_nil)))
      (pss_cons (ps_set (i := 3) sc_law.nd rfl (Or.inl rfl) (pe_callB call_len_seq (by rfl) T.z_len PySem.boot_len (pa_cons (pe_call (ok_spots T) (hr.mono (by decide)) (by rfl) T.g_spots T.F_spots.kp T.b_spots .nil pass0 (pa_cons (pv 2) pa_nil)) pa_nil)))
      (pss_cons (ps_set (i := 4) sc_law.nd rfl (Or.inl rfl) (pe_op op_add pe_int (pe_call (ok_draw T) (hr.mono (by decide)) (by rfl) T.g_draw T.F_draw.kp T.b_draw .nil pass0 (pa_cons (pv 1) (pa_cons (pv 3) pa_nil)))))
      (pss_cons (ps_set (i := 5) sc_law.nd rfl (Or.inl rfl) (pe_op op_sub (pe_call (ok_draw T) (hr.mono (by decide)) (by rfl) T.g_draw T.F_draw.kp T.b_draw .nil pass0 (pa_cons (pv 1) (pa_cons (pe_op op_add (pe_op op_mulX pe_int (pe_op op_pow pe_int pe_int)) pe_int) pa_nil))) (pe_op op_pow pe_int pe_int)))
      (pss_cons (ps_set (i := 6) sc_law.nd rfl (Or.inl rfl) (pe_op op_add pe_int (pe_call (ok_draw T) (hr.mono (by decide)) (by rfl) T.g_draw T.F_draw.kp T.b_draw .nil pass0 (pa_cons (pv 1) (pa_cons pe_int pa_nil)))))
      (pss_cons (ps_set (i := 7) sc_law.nd rfl (Or.inl rfl) (pe_call (ok_number T) (hr.mono (by decide)) (by rfl) T.g_number T.F_number.kp T.b_number .nil pass0 (pa_cons (pv 1) pa_nil)))
      (pss_cons (ps_asg (pe_call (ok_made T) (hr.mono (by decide)) (by rfl) T.g_made T.F_made.kp T.b_made .nil pass0 (pa_cons (pv 7) (pa_cons (pv 2) (pa_cons (pv 5) (pa_cons (pv 6) (pa_cons (pv 4) pa_nil)))))) (pg_tup rfl (pgs_cons (pg_name (i := 8) sc_law.nd rfl (Or.inl rfl)) (pgs_cons (pg_name (i := 9) sc_law.nd rfl (Or.inl rfl)) pgs_nil))))
      (pss_cons (ps_if (PW.pt (pw_or (pt_cmpR op_ne (pv 8) pe_str (nomark _)) (pw_or (pt_cmpR op_ne (pe_fld (pv 9) rfl) (pv 3) (nomark _)) (pw_or (pt_cmpR op_ne (pe_fld (pe_fld (pv 9) rfl) rfl) (pv 2) (nomark _)) (pw_or1 (pt_cmpR op_ne (pe_fld (pv 9) rfl) (pv 6) (nomark _)))))))
        (pss_one (ps_ret pe_bl))
        pss_nil)
      (pss_cons (ps_set (i := 10) sc_law.nd rfl (Or.inl rfl) (pe_meth0 (pv 9) T.clHC T.m_least_lots (ok_least_lots T) (hr.mono (by decide)) T.b_least_lots .nil pass0))
      (pss_cons (ps_if (pt_not (pt_val (pe_call (ok_lots T) (hr.mono (by decide)) (by rfl) T.g_lots T.F_lots.kp T.b_lots .nil pass0 (pa_cons (pv 2) (pa_cons (pv 4) (pa_cons (pv 10) pa_nil))))))
        (pss_one (ps_ret pe_bl))
        pss_nil)
      (pss_cons (ps_if (pt_cmpR (op_neD hr.units) (pe_meth0 (pv 9) T.clHC T.m_silent_faults (ok_silent_faults T) (hr.mono (by decide)) T.b_silent_faults .nil pass0) (pe_callTy call_tuple_of (by rfl) T.z_tuple (by decide +kernel) (pa_cons (pe_lc (own := [("_law_lot", 11)]) (g := gName 11) rfl sc_law.nd (pi_tup (pv 10)) (blkOk_by (own := [("_law_lot", 11)]) (N := nm_law) (sc := (defScope s_law)) (by decide +kernel)) (fun _ _ _ _ _ => pg_name (i := 11) sc_law.nd rfl (Or.inl rfl)) (fun _ _ _ _ _ => (pts_one (pt_cmpR op_eq (pe_callB (show CallR _ _ (Kx.rLen K) from call_len_seq) (by rfl) T.z_len PySem.boot_len (pa_cons (pv 11) pa_nil)) pe_int (nomark _)))) (fun _ _ _ _ _ => (pe_ix (show IxR _ (rIxT K) from ix_tup) (pv 11) pe_int (fun _ _ => rfl)))) pa_nil)) (nomark _))
        (pss_one (ps_ret pe_bl))
        pss_nil)
      (pss_cons (ps_if (pt_cmpR op_notBl (pe_methR0 (pv 9) T.clHC T.m_is_silent (ok_is_silent T) (hr.mono (by decide)) pass0) pe_bl (nomark _))
        (pss_one (ps_ret pe_bl))
        pss_nil)
      (pss_cons (ps_for PassesOwn.never rfl (pi_range1 (by rfl) T.z_range (pa_cons pe_int pa_nil)) (pg_name (i := 12) sc_law.nd rfl (Or.inl rfl))
        (pss_cons (ps_set (i := 13) sc_law.nd rfl (Or.inl rfl) (pe_call (ok_faults T) (hr.mono (by decide)) (by rfl) T.g_faults T.F_faults.kp T.b_faults .nil pass0 (pa_cons (pv 1) (pa_cons (pv 2) (pa_cons (pe_call (ok_draw T) (hr.mono (by decide)) (by rfl) T.g_draw T.F_draw.kp T.b_draw .nil pass0 (pa_cons (pv 1) (pa_cons pe_int pa_nil))) pa_nil)))))
        (pss_cons (ps_set (i := 14) sc_law.nd rfl (Or.inl rfl) (pe_cmpR op_lt (pe_callB call_len_seq (by rfl) T.z_len PySem.boot_len (pa_cons (pe_call (ok_heard T) (hr.mono (by decide)) (by rfl) T.g_heard T.F_heard.kp T.b_heard .nil pass0 (pa_cons (pv 2) (pa_cons (pv 13) pa_nil))) pa_nil)) (pv 4) (nomark _)))
        (pss_cons (ps_if (pt_cmpR op_ne (pe_call (ok_within T) (hr.mono (by decide)) (by rfl) T.g_within T.F_within.kp T.b_within .nil pass0 (pa_cons (pv 10) (pa_cons (pv 13) pa_nil))) (pv 14) (nomark _))
          (pss_one (ps_ret pe_bl))
          pss_nil)
        (pss_cons (ps_set (i := 15) sc_law.nd rfl (Or.inl rfl) (pe_call (ok_silent T) (hr.mono (by decide)) (by rfl) T.g_silent T.F_silent.kp T.b_silent .nil pass0 (pa_cons (pv 9) (pa_cons (pv 13) pa_nil))))
        (pss_one (ps_if (PW.pt (pw_or (PW.pt (pw_and (pt_cmpR op_notBl (pv 15) pe_bl (nomark _)) (pw_and1 (pt_cmpR op_notBl (pv 15) pe_bl (nomark _))))) (pw_or1 (pt_cmpR op_ne (pv 15) (pv 14) (nomark _)))))
          (pss_one (ps_ret pe_bl))
          pss_nil)))))))
      (pss_cons (ps_if (PW.pt (pw_or (pt_not (pt_val (pe_call (ok_changed T) (hr.mono (by decide)) (by rfl) T.g_changed T.F_changed.kp T.b_changed .nil pass0 (pa_cons (pv 1) (pa_cons (pv 9) (pa_cons (pv 2) (pa_cons (pv 5) (pa_cons (pv 6) (pa_cons (pv 4) pa_nil))))))))) (pw_or1 (pt_not (pt_val (pe_call (ok_guarded T) (hr.mono (by decide)) (by rfl) T.g_guarded T.F_guarded.kp T.b_guarded .nil pass0 (pa_cons (pv 1) pa_nil)))))))
        (pss_one (ps_ret pe_bl))
        pss_nil)
      (pss_one (ps_ret (pe_and (pe_call (ok_wwrong T) (hr.mono (by decide)) (by rfl) T.g_wwrong T.F_wwrong.kp T.b_wwrong .nil pass0 (pa_cons (pv 1) (pa_cons (pv 7) (pa_cons (pv 2) (pa_cons (pv 3) pa_nil))))) (pe_one (pe_cmpR (op_eqD hr.units) (pe_meth0 (pv 9) T.clHC T.m_least_lots (ok_least_lots T) (hr.mono (by decide)) T.b_least_lots .nil pass0) (pv 10) (nomark _))))))))))))))))))))), ?_⟩
    refine ⟨_, rfl, a, ns, rfl, ha, hn, fun H1 b s1 bag1 => ?_⟩
    refine ⟨_, rfl, b, 0, rfl, bag1, by omega, fun H2 l R bag2 but2 => ?_⟩
    have hl := R.len
    have c1 := one_count R
    have cl : l.count true ≤ l.length := List.count_le_length
    refine ⟨_, rfl, l, rfl, hl, fun H3 r s3 nr hr => ⟨r, _, rfl, .inl (SqL.of hr), ?_⟩⟩
    rw [nV_len, Rm.sp_len]
    have bag3 := bag2.keep s3
    refine ⟨_, rfl, _, rfl, b, _, _, rfl, by omega, by omega, bag3, by omega, fun H4 d1 e0 e1 bag4 but4 => ⟨_, _, rfl, rfl, ?_⟩⟩
    obtain ⟨n, en, n1, nl⟩ : ∃ n : Nat, (1 : Int) + d1 = (n : Nat) ∧ 1 ≤ n ∧ n ≤ l.count true := ⟨(1 + d1).toNat, by omega, by omega, by omega⟩
    (try dsimp only; rw [en])
    refine ⟨_, rfl, _, _, rfl, rfl, ⟨by decide, by decide, by decide⟩, _, _, rfl, rfl, mulx_ok (a := 2) (b := 67) (by decide) (by decide) (by decide), _, _, rfl, rfl, b, _, _, rfl, by decide, by decide, bag4, by omega, fun H5 d2 w0 w1 bag5 but5 => ?_⟩
    refine ⟨_, _, rfl, rfl, ⟨by decide, by decide, by decide⟩, _, _, rfl, rfl, ?_⟩
    try dsimp only
    generalize d2 - 10 ^ (20 : Int).toNat = bar
    clear w0 w1
    refine ⟨_, rfl, b, _, 8, rfl, by decide, by decide, bag5, by omega, fun H6 d3 v0 v1 bag6 but6 => ⟨_, _, rfl, rfl, ?_⟩⟩
    obtain ⟨st, est, st1, st8⟩ : ∃ st : Int, 1 + d3 = st ∧ 1 ≤ st ∧ st ≤ 8 := ⟨_, rfl, by omega, by omega⟩
    (try dsimp only; rw [est])
    refine ⟨_, rfl, b, _, rfl, bag6, by omega, fun H7 ds N bag7 but7 => ?_⟩
    have ok : HsOk ⟨ds, l, bar, st, n⟩ := ⟨N, R, st1, st8, n1, nl⟩
    refine ⟨_, rfl, _, rfl, _, rfl, _, rfl, _, rfl, _, _, _, _, _, .ok ⟨ds, l, bar, st, n⟩, rfl, HI.ok ok, fun H8 u p s8 np hA hu => ?_⟩
    refine ⟨u, _, rfl, SqT.of hu, rfl, _, _, rfl, _, _, rfl, rfl, ?_⟩
    obtain ⟨dx, fs, q, hp, l1, l2, l3, l4, l5, l6, l7, l8, r0⟩ := id hA
    obtain ⟨dq, fq, yq, hq, m1, m2, m3, m4, m5⟩ := id r0
    refine ⟨_, rfl, rfl, _, rfl, ?_⟩
    rw [decide_eq_true (show V.str "" = V.str "" from rfl)]
    refine iteF ⟨_, rfl, p, T.HC, dx, fs, _, rfl, hp, T.clHC, T.nSk, l7, _, rfl, rfl, _, rfl, ?_⟩
    rw [decide_eq_true (show V.int ((l.count true : Nat) : Int) = V.int ((l.count true : Nat) : Int) from rfl)]
    refine iteF ⟨_, rfl, p, T.HC, dx, fs, _, rfl, hp, T.clHC, T.nLa, l6, q, T.C, dq, fq, _, rfl, hq, T.clC, T.nT, m1, _, rfl, rfl, _, rfl, ?_⟩
    rw [decide_eq_true (show V.str (rgS l) = V.str (rgS l) from rfl)]
    refine iteF ⟨_, rfl, p, T.HC, dx, fs, _, rfl, hp, T.clHC, T.nRo, l4, _, rfl, rfl, _, rfl, ?_⟩
    rw [decide_eq_true (show V.int st = V.int st from rfl)]
    refine iteF ?_
    refine ⟨_, rfl, p, dx, fs, rfl, hp, hn_meth "least_lots" l8 (by decide +kernel), p, _, rfl, hA, hl, fun H9 lu s9 dl => ?_⟩
    have dl := Dt.lots dl
    refine ⟨_, rfl, _, rfl, _, rfl, lu, l, n, rfl, hl, n1, nl, dl, fun H10 s10 => ⟨true, rfl, iteF ?_⟩⟩
    have s910 := s9.trans s10
    refine ⟨_, rfl, p, dx, fs, rfl, s910 _ _ hp, hn_meth "silent_faults" l8 (by decide +kernel), p, _, rfl, hA.keep s910, hl, fun H11 su s11 dsf => ?_⟩
    obtain ⟨lu', us, e, hus, dus⟩ := (dl.k (Kt.same (s10.trans s11))).inv
    cases e
    have lx := dus.len
    rw [List.length_map] at lx
    have l600 := lots_le (n := n) hl
    refine ⟨_, rfl, lu, rfl, ⟨_, hus⟩, fun D hD => ?_⟩
    refine lc_sel (K := K) walk_tup (fun lot : List Ft => decide (lot.length = 1)) (out := headD) dus lx hD (by rw [lx]; exact Nat.le_trans l600 (by decide)) (fun H' s => sameT s hus) (fun i x lot H' hx hf dx sm Q2 Z q2 z0 => ?_) (fun H12 os s12 hos dos => ?_)
    · obtain ⟨a2, zs, rfl, hz, hzs, lz⟩ := lotD_inv (dx.k (Kt.same sm))
      refine ⟨rfl, ?_⟩
      refine ⟨_, rfl, a2, _, rfl, .inr hz, rfl, _, rfl, ?_⟩
      have ez : decide (V.int ((zs.length : Nat) : Int) = V.int 1) = decide (lot.length = 1) := by
        rw [lz]
        exact decide_eq_decide.mpr ⟨fun z => by have := V.int.inj z; omega, fun z => by rw [z]; rfl⟩
      rw [ez]
      cases c : decide (lot.length = 1) with
      | false => exact z0 c _ (Same.refl _)
      | true =>
        have c1 := of_decide_eq_true c
        obtain ⟨f, rfl⟩ : ∃ f, lot = [f] := match lot, c1 with | [f], _ => ⟨f, rfl⟩
        cases hzs with
        | cons dz hr =>
          cases hr
          exact ⟨_, rfl, a2, _, 0, _, rfl, rfl, hz, atI_nat (j := 0) rfl, q2 c _ _ (Same.refl _) dz⟩
    · have dos : Dts K H12 os (((lots l n).filter fun lot => decide (lot.length = 1)).map headD) := dos
      rw [lots_heads] at dos
      refine ⟨D, os, rfl, .inl ⟨SqL.of hos, fun su2 hsu2 => ?_⟩⟩
      have sn := same_new (o := .tup os) hsu2
      have ff := fine_fts (singles l n)
      refine ⟨_, _, (dsf.k (Kt.same (s12.trans sn))).toDp, (dt_tup upd_same (dos.k (Kt.same sn))).toDp, ff.shaped (by decide), ff.shaped (by decide), ?_⟩
      rw [ff.refl]
      refine ⟨_, rfl, iteF ?_⟩
      have sA := ((s910.trans s11).trans s12).trans sn
      have hA2 := hA.keep sA
      have dl2 := dl.k (Kt.same (((s10.trans s11).trans s12).trans sn))
      have bagA := (bag7.keep s8).keep sA
      have hpA := sA _ _ hp
      generalize upd H12 su2 (.tup os) = A at *
      refine ⟨_, rfl, p, dx, fs, rfl, hpA, hn_meth "is_silent" l8 (by decide +kernel), [.ref p], [], rfl, rfl, Nat.zero_le _, fun u0 hu0 => ?_⟩
      refine ⟨p, u0, _, [], rfl, hA2.keep (same_new hu0), hl, star_fts (xs := []) .nil hu0, ⟨Nat.zero_le _, fun y m => absurd m (List.not_mem_nil)⟩, fun A1 t1 => ?_⟩
      rw [sil_nil nl]
      refine ⟨_, _, rfl, rfl, _, rfl, ?_⟩
      refine iteF ?_
      have hA3 := (hA2.keep (same_new (o := .tup []) hu0)).keep t1
      have dl3 := (dl2.k (Kt.new (o := .tup []) hu0)).k (Kt.same t1)
      have bagB := (bagA.keep (same_new (o := .tup []) hu0)).keep t1
      refine ⟨_, rfl, by decide, by decide, ?_⟩
      refine for_range (fun i σ B => ∃ v12 v13 v14 v15 : Option V, σ = [some (.ref a), some (.ref b), some (.str (rgS l)), some (.int ((l.count true : Nat) : Int)), some (.int ((n : Nat) : Int)), some (.int bar), some (.int st), some (.str (numS ds)), some (.str ""), some (.ref p), some (.ref lu), none, v12, v13, v14, v15] ∧ Bg B b (100 + 20 * i) ∧ HouseAt K T.C T.HC B p ⟨ds, l, bar, st, n⟩ ∧ Dt K B (.ref lu) (.tuple ((lots l n).map lotD)))
        ⟨none, none, none, none, rfl, bagB.mono (by omega), hA3, dl3⟩ (fun i σ B hi hP => ?_) (fun σ B hP => ?_)
      · obtain ⟨v12, v13, v14, v15, rfl, bagI, hB, dB⟩ := hP
        have hi : i < 4 := hi
        refine ⟨_, rfl, _, rfl, _, rfl, b, _, 5, rfl, by decide, by decide, bagI, by omega, fun B1 d4 e2 e3 bagJ butJ => ?_⟩
        obtain ⟨mn, rfl⟩ : ∃ mn : Nat, d4 = (mn : Nat) := ⟨d4.toNat, by omega⟩
        refine ⟨b, _, mn, l, rfl, by omega, hl, bagJ, by omega, fun B2 r2 gs xs nr2 lg hg hr2 dgs bagK butK => ?_⟩
        have gok : FOk l.length gs := ⟨by omega, hg⟩
        refine ⟨_, rfl, _, rfl, r2, l, gs, rfl, hl, ⟨false, xs, SqL.of hr2, dgs⟩, gok, fun B3 r3 t3 nr3 hr3 => ?_⟩
        refine ⟨r3, _, rfl, .inr (SqT.of hr3), _, rfl, _, _, rfl, rfl, ?_⟩
        try dsimp only
        rw [heard_lt]
        have t23 := butJ.trans butK
        have hB2 := hB.bt bagI t23
        have dB2 := dB.k (kt_bt bagI t23)
        refine ⟨_, rfl, _, rfl, lu, r2, lots l n, gs, xs, rfl, dB2.k (Kt.same t3), fun lot m => by have := lots_len m; omega, t3 _ _ hr2, dgs.k (Kt.same t3), fun B4 t4 => ?_⟩
        rw [within_sil hg nl]
        refine ⟨_, rfl, rfl, _, rfl, ?_⟩
        rw [decide_eq_true (show V.bl (sil l n gs) = V.bl (sil l n gs) from rfl)]
        have t34 := t3.trans t4
        refine iteF ⟨_, rfl, _, rfl, p, r2, ⟨ds, l, bar, st, n⟩, gs, xs, rfl, hB2.keep t34, hl, t34 _ _ hr2, dgs.k (Kt.same t34), by omega, hg, fun B5 t5 => ?_⟩
        have t35 := t34.trans t5
        have fin : ∀ {σ : L2.St}, σ = [some (.ref a), some (.ref b), some (.str (rgS l)), some (.int ((l.count true : Nat) : Int)), some (.int ((n : Nat) : Int)), some (.int bar), some (.int st), some (.str (numS ds)), some (.str ""), some (.ref p), some (.ref lu), none, some (.int (0 + ((i : Nat) : Int))), some (.ref r2), some (.bl (sil l n gs)), some (.bl (sil l n gs))] → ∃ v12 v13 v14 v15 : Option V, σ = [some (.ref a), some (.ref b), some (.str (rgS l)), some (.int ((l.count true : Nat) : Int)), some (.int ((n : Nat) : Int)), some (.int bar), some (.int st), some (.str (numS ds)), some (.str ""), some (.ref p), some (.ref lu), none, v12, v13, v14, v15] ∧ Bg B5 b (100 + 20 * (i + 1)) ∧ HouseAt K T.C T.HC B5 p ⟨ds, l, bar, st, n⟩ ∧ Dt K B5 (.ref lu) (.tuple ((lots l n).map lotD)) := fun e => ⟨_, _, _, _, e, (bagK.keep t35).mono (by omega), hB2.keep t35, dB2.k (Kt.same t35)⟩
        refine ⟨_, rfl, _, _, rfl, rfl, _, rfl, ?_⟩
        cases es : sil l n gs with
        | true =>
          rw [es] at fin
          refine iteF ⟨_, rfl, _, rfl, rfl, _, rfl, ?_⟩
          rw [decide_eq_true (show V.bl true = V.bl true from rfl)]
          exact iteF (fin rfl)
        | false =>
          rw [es] at fin
          refine iteT ⟨_, rfl, _, _, rfl, rfl, _, rfl, ?_⟩
          refine iteF ⟨_, rfl, _, rfl, rfl, _, rfl, ?_⟩
          rw [decide_eq_true (show V.bl false = V.bl false from rfl)]
          exact iteF (fin rfl)
      · obtain ⟨v12, v13, v14, v15, rfl, bagI, hB, dB⟩ := hP
        refine ⟨_, rfl, _, rfl, _, rfl, _, rfl, _, rfl, _, rfl, b, p, _, ⟨ds, l, bar, st, n⟩, rfl, bagI, by omega, hB, ok, fun B1 bagJ butJ => ⟨true, rfl, iteF ?_⟩⟩
        have hB1 := hB.bt bagI butJ
        have dB1 := dB.k (kt_bt bagI butJ)
        refine ⟨_, rfl, b, _, rfl, bagJ, by omega, fun B2 bagK butK => ⟨true, rfl, iteF ?_⟩⟩
        have hB2 := hB1.bt bagJ butK
        have dB2 := dB1.k (kt_bt bagJ butK)
        refine ⟨_, rfl, _, rfl, _, rfl, _, rfl, b, _, ds, l, rfl, bagK, by omega, N, R, fun B3 k3 bagL butL => ⟨_, rfl, iteT ?_⟩⟩
        have hB3 := hB2.bt bagK butL
        have dB3 := dB2.k (kt_bt bagK butL)
        obtain ⟨dx3, fs3, q3, hp3, _, _, _, _, _, _, _, m8, _⟩ := id hB3
        refine ⟨_, rfl, p, dx3, fs3, rfl, hp3, hn_meth "least_lots" m8 (by decide +kernel), p, _, rfl, hB3, hl, fun B4 u4 t4 du4 => ?_⟩
        have fl := fine_lots (lots l n)
        refine ⟨_, rfl, _, _, (Dt.lots du4).toDp, (dB3.k (Kt.same t4)).toDp, fl.shaped (by decide), fl.shaped (by decide), ?_⟩
        rw [fl.refl]
        exact k _
end
end K51

namespace K51
open PySem L2 Wm TL Dv PySem.W
theorem all_mk {l : PySem.W.OpenLaw} {w : World} {K : PySem.W.Frag} {h : Heap} {mg : Str → Option Value} {fa : Addr} (X : K.In h) (G : h.Ns mainGlobals mg) (hfa : mg "law" = some (.ref fa))
    {xC : Addr}
    (axC : PySem.W.nsIn K mainGlobals "Ring" = some (some (.ref xC)))
    {xH : Addr}
    (axH : PySem.W.nsIn K mainGlobals "House" = some (some (.ref xH)))
    {x_is_whole : Addr} {od_is_whole an_is_whole : Option Addr} {sl_is_whole : Array (Option Value)} {oc_is_whole dc_is_whole pm_is_whole cd_is_whole ct_is_whole : Value}
    {kV_is_whole : Value}
    (a_is_whole : PySem.W.nsIn K mainGlobals "is_whole" = some (some (.ref x_is_whole)))
    (l_is_whole : K.lookup x_is_whole = some ⟨oc_is_whole, od_is_whole, .func (PySem.W.fnOf "is_whole" "is_whole" (defArgs s_is_whole) (defBody s_is_whole) (defScope s_is_whole) .none kV_is_whole dc_is_whole pm_is_whole an_is_whole cd_is_whole ct_is_whole), sl_is_whole⟩)
    (c_is_whole : PySem.W.codeIn K cd_is_whole "is_whole" = true)
    (k_is_whole : PySem.W.keepIn K (.ref x_is_whole) = true)
    {x_is_whole_within : Addr} {od_is_whole_within an_is_whole_within : Option Addr} {sl_is_whole_within : Array (Option Value)} {oc_is_whole_within dc_is_whole_within pm_is_whole_within cd_is_whole_within ct_is_whole_within : Value}
    {kV_is_whole_within : Value}
    (a_is_whole_within : PySem.W.nsIn K mainGlobals "is_whole_within" = some (some (.ref x_is_whole_within)))
    (l_is_whole_within : K.lookup x_is_whole_within = some ⟨oc_is_whole_within, od_is_whole_within, .func (PySem.W.fnOf "is_whole_within" "is_whole_within" (defArgs s_is_whole_within) (defBody s_is_whole_within) (defScope s_is_whole_within) .none kV_is_whole_within dc_is_whole_within pm_is_whole_within an_is_whole_within cd_is_whole_within ct_is_whole_within), sl_is_whole_within⟩)
    (c_is_whole_within : PySem.W.codeIn K cd_is_whole_within "is_whole_within" = true)
    (k_is_whole_within : PySem.W.keepIn K (.ref x_is_whole_within) = true)
    {x_is_number : Addr} {od_is_number an_is_number : Option Addr} {sl_is_number : Array (Option Value)} {oc_is_number dc_is_number pm_is_number cd_is_number ct_is_number : Value}
    {kV_is_number : Value}
    (a_is_number : PySem.W.nsIn K mainGlobals "is_number" = some (some (.ref x_is_number)))
    (l_is_number : K.lookup x_is_number = some ⟨oc_is_number, od_is_number, .func (PySem.W.fnOf "is_number" "is_number" (defArgs s_is_number) (defBody s_is_number) (defScope s_is_number) .none kV_is_number dc_is_number pm_is_number an_is_number cd_is_number ct_is_number), sl_is_number⟩)
    (c_is_number : PySem.W.codeIn K cd_is_number "is_number" = true)
    (k_is_number : PySem.W.keepIn K (.ref x_is_number) = true)
    {x_is_ring_text : Addr} {od_is_ring_text an_is_ring_text : Option Addr} {sl_is_ring_text : Array (Option Value)} {oc_is_ring_text dc_is_ring_text pm_is_ring_text cd_is_ring_text ct_is_ring_text : Value}
    {kV_is_ring_text : Value}
    (a_is_ring_text : PySem.W.nsIn K mainGlobals "is_ring_text" = some (some (.ref x_is_ring_text)))
    (l_is_ring_text : K.lookup x_is_ring_text = some ⟨oc_is_ring_text, od_is_ring_text, .func (PySem.W.fnOf "is_ring_text" "is_ring_text" (defArgs s_is_ring_text) (defBody s_is_ring_text) (defScope s_is_ring_text) .none kV_is_ring_text dc_is_ring_text pm_is_ring_text an_is_ring_text cd_is_ring_text ct_is_ring_text), sl_is_ring_text⟩)
    (c_is_ring_text : PySem.W.codeIn K cd_is_ring_text "is_ring_text" = true)
    (k_is_ring_text : PySem.W.keepIn K (.ref x_is_ring_text) = true)
    {x_zones_of : Addr} {od_zones_of an_zones_of : Option Addr} {sl_zones_of : Array (Option Value)} {oc_zones_of dc_zones_of pm_zones_of cd_zones_of ct_zones_of : Value}
    {kV_zones_of : Value}
    (a_zones_of : PySem.W.nsIn K mainGlobals "zones_of" = some (some (.ref x_zones_of)))
    (l_zones_of : K.lookup x_zones_of = some ⟨oc_zones_of, od_zones_of, .func (PySem.W.fnOf "zones_of" "zones_of" (defArgs s_zones_of) (defBody s_zones_of) (defScope s_zones_of) .none kV_zones_of dc_zones_of pm_zones_of an_zones_of cd_zones_of ct_zones_of), sl_zones_of⟩)
    (c_zones_of : PySem.W.codeIn K cd_zones_of "zones_of" = true)
    (k_zones_of : PySem.W.keepIn K (.ref x_zones_of) = true)
    {x_init : Addr} {od_init an_init : Option Addr} {sl_init : Array (Option Value)} {oc_init dc_init pm_init cd_init ct_init : Value}
    {kV_init : Value}
    (a_init : PySem.W.findIn K (.ref xC) "__init__" = some (some (.ref x_init)))
    (i_init : PySem.W.isFn K (.ref x_init) = true)
    (l_init : K.lookup x_init = some ⟨oc_init, od_init, .func (PySem.W.fnOf "__init__" "Ring.__init__" (defArgs s_init) (defBody s_init) (defScope s_init) .none kV_init dc_init pm_init an_init cd_init ct_init), sl_init⟩)
    (c_init : PySem.W.codeIn K cd_init "Ring.__init__" = true)
    (k_init : PySem.W.keepIn K (.ref x_init) = true)
    {x_all_faults : Addr} {od_all_faults an_all_faults : Option Addr} {sl_all_faults : Array (Option Value)} {oc_all_faults dc_all_faults pm_all_faults cd_all_faults ct_all_faults : Value}
    {kV_all_faults : Value}
    (a_all_faults : PySem.W.findIn K (.ref xC) "all_faults" = some (some (.ref x_all_faults)))
    (i_all_faults : PySem.W.isFn K (.ref x_all_faults) = true)
    (l_all_faults : K.lookup x_all_faults = some ⟨oc_all_faults, od_all_faults, .func (PySem.W.fnOf "all_faults" "Ring.all_faults" (defArgs s_all_faults) (defBody s_all_faults) (defScope s_all_faults) .none kV_all_faults dc_all_faults pm_all_faults an_all_faults cd_all_faults ct_all_faults), sl_all_faults⟩)
    (c_all_faults : PySem.W.codeIn K cd_all_faults "Ring.all_faults" = true)
    (k_all_faults : PySem.W.keepIn K (.ref x_all_faults) = true)
    {x_check_fault : Addr} {od_check_fault an_check_fault : Option Addr} {sl_check_fault : Array (Option Value)} {oc_check_fault dc_check_fault pm_check_fault cd_check_fault ct_check_fault : Value}
    {kV_check_fault : Value}
    (a_check_fault : PySem.W.findIn K (.ref xC) "check_fault" = some (some (.ref x_check_fault)))
    (i_check_fault : PySem.W.isFn K (.ref x_check_fault) = true)
    (l_check_fault : K.lookup x_check_fault = some ⟨oc_check_fault, od_check_fault, .func (PySem.W.fnOf "check_fault" "Ring.check_fault" (defArgs s_check_fault) (defBody s_check_fault) (defScope s_check_fault) .none kV_check_fault dc_check_fault pm_check_fault an_check_fault cd_check_fault ct_check_fault), sl_check_fault⟩)
    (c_check_fault : PySem.W.codeIn K cd_check_fault "Ring.check_fault" = true)
    (k_check_fault : PySem.W.keepIn K (.ref x_check_fault) = true)
    {x_check_faults : Addr} {od_check_faults an_check_faults : Option Addr} {sl_check_faults : Array (Option Value)} {oc_check_faults dc_check_faults pm_check_faults cd_check_faults ct_check_faults : Value}
    {kV_check_faults : Value}
    (a_check_faults : PySem.W.findIn K (.ref xC) "check_faults" = some (some (.ref x_check_faults)))
    (i_check_faults : PySem.W.isFn K (.ref x_check_faults) = true)
    (l_check_faults : K.lookup x_check_faults = some ⟨oc_check_faults, od_check_faults, .func (PySem.W.fnOf "check_faults" "Ring.check_faults" (defArgs s_check_faults) (defBody s_check_faults) (defScope s_check_faults) .none kV_check_faults dc_check_faults pm_check_faults an_check_faults cd_check_faults ct_check_faults), sl_check_faults⟩)
    (c_check_faults : PySem.W.codeIn K cd_check_faults "Ring.check_faults" = true)
    (k_check_faults : PySem.W.keepIn K (.ref x_check_faults) = true)
    {x_zone_of : Addr} {od_zone_of an_zone_of : Option Addr} {sl_zone_of : Array (Option Value)} {oc_zone_of dc_zone_of pm_zone_of cd_zone_of ct_zone_of : Value}
    {kV_zone_of : Value}
    (a_zone_of : PySem.W.findIn K (.ref xC) "zone_of" = some (some (.ref x_zone_of)))
    (i_zone_of : PySem.W.isFn K (.ref x_zone_of) = true)
    (l_zone_of : K.lookup x_zone_of = some ⟨oc_zone_of, od_zone_of, .func (PySem.W.fnOf "zone_of" "Ring.zone_of" (defArgs s_zone_of) (defBody s_zone_of) (defScope s_zone_of) .none kV_zone_of dc_zone_of pm_zone_of an_zone_of cd_zone_of ct_zone_of), sl_zone_of⟩)
    (c_zone_of : PySem.W.codeIn K cd_zone_of "Ring.zone_of" = true)
    (k_zone_of : PySem.W.keepIn K (.ref x_zone_of) = true)
    {x_closed_stretches : Addr} {od_closed_stretches an_closed_stretches : Option Addr} {sl_closed_stretches : Array (Option Value)} {oc_closed_stretches dc_closed_stretches pm_closed_stretches cd_closed_stretches ct_closed_stretches : Value}
    {kV_closed_stretches : Value}
    (a_closed_stretches : PySem.W.findIn K (.ref xC) "closed_stretches" = some (some (.ref x_closed_stretches)))
    (i_closed_stretches : PySem.W.isFn K (.ref x_closed_stretches) = true)
    (l_closed_stretches : K.lookup x_closed_stretches = some ⟨oc_closed_stretches, od_closed_stretches, .func (PySem.W.fnOf "closed_stretches" "Ring.closed_stretches" (defArgs s_closed_stretches) (defBody s_closed_stretches) (defScope s_closed_stretches) .none kV_closed_stretches dc_closed_stretches pm_closed_stretches an_closed_stretches cd_closed_stretches ct_closed_stretches), sl_closed_stretches⟩)
    (c_closed_stretches : PySem.W.codeIn K cd_closed_stretches "Ring.closed_stretches" = true)
    (k_closed_stretches : PySem.W.keepIn K (.ref x_closed_stretches) = true)
    {x_passed_from : Addr} {od_passed_from an_passed_from : Option Addr} {sl_passed_from : Array (Option Value)} {oc_passed_from dc_passed_from pm_passed_from cd_passed_from ct_passed_from : Value}
    {kV_passed_from : Value}
    (a_passed_from : PySem.W.findIn K (.ref xC) "passed_from" = some (some (.ref x_passed_from)))
    (i_passed_from : PySem.W.isFn K (.ref x_passed_from) = true)
    (l_passed_from : K.lookup x_passed_from = some ⟨oc_passed_from, od_passed_from, .func (PySem.W.fnOf "passed_from" "Ring.passed_from" (defArgs s_passed_from) (defBody s_passed_from) (defScope s_passed_from) .none kV_passed_from dc_passed_from pm_passed_from an_passed_from cd_passed_from ct_passed_from), sl_passed_from⟩)
    (c_passed_from : PySem.W.codeIn K cd_passed_from "Ring.passed_from" = true)
    (k_passed_from : PySem.W.keepIn K (.ref x_passed_from) = true)
    {x_reached : Addr} {od_reached an_reached : Option Addr} {sl_reached : Array (Option Value)} {oc_reached dc_reached pm_reached cd_reached ct_reached : Value}
    {kV_reached : Value}
    (a_reached : PySem.W.findIn K (.ref xC) "reached" = some (some (.ref x_reached)))
    (i_reached : PySem.W.isFn K (.ref x_reached) = true)
    (l_reached : K.lookup x_reached = some ⟨oc_reached, od_reached, .func (PySem.W.fnOf "reached" "Ring.reached" (defArgs s_reached) (defBody s_reached) (defScope s_reached) .none kV_reached dc_reached pm_reached an_reached cd_reached ct_reached), sl_reached⟩)
    (c_reached : PySem.W.codeIn K cd_reached "Ring.reached" = true)
    (k_reached : PySem.W.keepIn K (.ref x_reached) = true)
    {x_hinit : Addr} {od_hinit an_hinit : Option Addr} {sl_hinit : Array (Option Value)} {oc_hinit dc_hinit pm_hinit cd_hinit ct_hinit : Value}
    {xD : Addr} {tD : Tok}
    (a_hinit : PySem.W.findIn K (.ref xH) "__init__" = some (some (.ref x_hinit)))
    (i_hinit : PySem.W.isFn K (.ref x_hinit) = true)
    (l_hinit : K.lookup x_hinit = some ⟨oc_hinit, od_hinit, .func (PySem.W.fnOf "__init__" "House.__init__" (defArgs s_hinit) (defBody s_hinit) (defScope s_hinit) .none (.ref xD) dc_hinit pm_hinit an_hinit cd_hinit ct_hinit), sl_hinit⟩)
    (c_hinit : PySem.W.codeIn K cd_hinit "House.__init__" = true)
    (k_hinit : PySem.W.keepIn K (.ref x_hinit) = true)
    (e_hinit : PySem.W.nsIn K xD "need" = some (some (.int 1 tD)))
    {x_heq : Addr} {od_heq an_heq : Option Addr} {sl_heq : Array (Option Value)} {oc_heq dc_heq pm_heq cd_heq ct_heq : Value}
    {kV_heq : Value}
    (a_heq : PySem.W.findIn K (.ref xH) "__eq__" = some (some (.ref x_heq)))
    (i_heq : PySem.W.isFn K (.ref x_heq) = true)
    (l_heq : K.lookup x_heq = some ⟨oc_heq, od_heq, .func (PySem.W.fnOf "__eq__" "House.__eq__" (defArgs s_heq) (defBody s_heq) (defScope s_heq) .none kV_heq dc_heq pm_heq an_heq cd_heq ct_heq), sl_heq⟩)
    (c_heq : PySem.W.codeIn K cd_heq "House.__eq__" = true)
    (k_heq : PySem.W.keepIn K (.ref x_heq) = true)
    {x_with_rules : Addr} {od_with_rules an_with_rules : Option Addr} {sl_with_rules : Array (Option Value)} {oc_with_rules dc_with_rules pm_with_rules cd_with_rules ct_with_rules : Value}
    {xR : Addr}
    (a_with_rules : PySem.W.findIn K (.ref xH) "with_rules" = some (some (.ref x_with_rules)))
    (i_with_rules : PySem.W.isFn K (.ref x_with_rules) = true)
    (l_with_rules : K.lookup x_with_rules = some ⟨oc_with_rules, od_with_rules, .func (PySem.W.fnOf "with_rules" "House.with_rules" (defArgs s_with_rules) (defBody s_with_rules) (defScope s_with_rules) .none (.ref xR) dc_with_rules pm_with_rules an_with_rules cd_with_rules ct_with_rules), sl_with_rules⟩)
    (c_with_rules : PySem.W.codeIn K cd_with_rules "House.with_rules" = true)
    (k_with_rules : PySem.W.keepIn K (.ref x_with_rules) = true)
    (e_w0 : PySem.W.nsIn K xR "ring" = some (some .none))
    (e_w1 : PySem.W.nsIn K xR "mark" = some (some .none))
    (e_w2 : PySem.W.nsIn K xR "rows" = some (some .none))
    (e_w3 : PySem.W.nsIn K xR "need" = some (some .none))
    {x_is_silent : Addr} {od_is_silent an_is_silent : Option Addr} {sl_is_silent : Array (Option Value)} {oc_is_silent dc_is_silent pm_is_silent cd_is_silent ct_is_silent : Value}
    {kV_is_silent : Value}
    (a_is_silent : PySem.W.findIn K (.ref xH) "is_silent" = some (some (.ref x_is_silent)))
    (i_is_silent : PySem.W.isFn K (.ref x_is_silent) = true)
    (l_is_silent : K.lookup x_is_silent = some ⟨oc_is_silent, od_is_silent, .func (PySem.W.fnOf "is_silent" "House.is_silent" (defArgs s_is_silent) (defBody s_is_silent) (defScope s_is_silent) .none kV_is_silent dc_is_silent pm_is_silent an_is_silent cd_is_silent ct_is_silent), sl_is_silent⟩)
    (c_is_silent : PySem.W.codeIn K cd_is_silent "House.is_silent" = true)
    (k_is_silent : PySem.W.keepIn K (.ref x_is_silent) = true)
    {x_silent_faults : Addr} {od_silent_faults an_silent_faults : Option Addr} {sl_silent_faults : Array (Option Value)} {oc_silent_faults dc_silent_faults pm_silent_faults cd_silent_faults ct_silent_faults : Value}
    {kV_silent_faults : Value}
    (a_silent_faults : PySem.W.findIn K (.ref xH) "silent_faults" = some (some (.ref x_silent_faults)))
    (i_silent_faults : PySem.W.isFn K (.ref x_silent_faults) = true)
    (l_silent_faults : K.lookup x_silent_faults = some ⟨oc_silent_faults, od_silent_faults, .func (PySem.W.fnOf "silent_faults" "House.silent_faults" (defArgs s_silent_faults) (defBody s_silent_faults) (defScope s_silent_faults) .none kV_silent_faults dc_silent_faults pm_silent_faults an_silent_faults cd_silent_faults ct_silent_faults), sl_silent_faults⟩)
    (c_silent_faults : PySem.W.codeIn K cd_silent_faults "House.silent_faults" = true)
    (k_silent_faults : PySem.W.keepIn K (.ref x_silent_faults) = true)
    {x_least_lots : Addr} {od_least_lots an_least_lots : Option Addr} {sl_least_lots : Array (Option Value)} {oc_least_lots dc_least_lots pm_least_lots cd_least_lots ct_least_lots : Value}
    {kV_least_lots : Value}
    (a_least_lots : PySem.W.findIn K (.ref xH) "least_lots" = some (some (.ref x_least_lots)))
    (i_least_lots : PySem.W.isFn K (.ref x_least_lots) = true)
    (l_least_lots : K.lookup x_least_lots = some ⟨oc_least_lots, od_least_lots, .func (PySem.W.fnOf "least_lots" "House.least_lots" (defArgs s_least_lots) (defBody s_least_lots) (defScope s_least_lots) .none kV_least_lots dc_least_lots pm_least_lots an_least_lots cd_least_lots ct_least_lots), sl_least_lots⟩)
    (c_least_lots : PySem.W.codeIn K cd_least_lots "House.least_lots" = true)
    (k_least_lots : PySem.W.keepIn K (.ref x_least_lots) = true)
    {x_guarded_ring : Addr} {od_guarded_ring an_guarded_ring : Option Addr} {sl_guarded_ring : Array (Option Value)} {oc_guarded_ring dc_guarded_ring pm_guarded_ring cd_guarded_ring ct_guarded_ring : Value}
    {kV_guarded_ring : Value}
    (a_guarded_ring : PySem.W.nsIn K mainGlobals "guarded_ring" = some (some (.ref x_guarded_ring)))
    (l_guarded_ring : K.lookup x_guarded_ring = some ⟨oc_guarded_ring, od_guarded_ring, .func (PySem.W.fnOf "guarded_ring" "guarded_ring" (defArgs s_guarded_ring) (defBody s_guarded_ring) (defScope s_guarded_ring) .none kV_guarded_ring dc_guarded_ring pm_guarded_ring an_guarded_ring cd_guarded_ring ct_guarded_ring), sl_guarded_ring⟩)
    (c_guarded_ring : PySem.W.codeIn K cd_guarded_ring "guarded_ring" = true)
    (k_guarded_ring : PySem.W.keepIn K (.ref x_guarded_ring) = true)
    {x_open : Addr} {od_open an_open : Option Addr} {sl_open : Array (Option Value)} {oc_open dc_open pm_open cd_open ct_open : Value}
    {kV_open : Value}
    (a_open : PySem.W.nsIn K mainGlobals "_law_open" = some (some (.ref x_open)))
    (l_open : K.lookup x_open = some ⟨oc_open, od_open, .func (PySem.W.fnOf "_law_open" "_law_open" (defArgs s_open) (defBody s_open) (defScope s_open) .none kV_open dc_open pm_open an_open cd_open ct_open), sl_open⟩)
    (c_open : PySem.W.codeIn K cd_open "_law_open" = true)
    (k_open : PySem.W.keepIn K (.ref x_open) = true)
    {x_draw : Addr} {od_draw an_draw : Option Addr} {sl_draw : Array (Option Value)} {oc_draw dc_draw pm_draw cd_draw ct_draw : Value}
    {kV_draw : Value}
    (a_draw : PySem.W.nsIn K mainGlobals "_law_draw" = some (some (.ref x_draw)))
    (l_draw : K.lookup x_draw = some ⟨oc_draw, od_draw, .func (PySem.W.fnOf "_law_draw" "_law_draw" (defArgs s_draw) (defBody s_draw) (defScope s_draw) .none kV_draw dc_draw pm_draw an_draw cd_draw ct_draw), sl_draw⟩)
    (c_draw : PySem.W.codeIn K cd_draw "_law_draw" = true)
    (k_draw : PySem.W.keepIn K (.ref x_draw) = true)
    {x_number : Addr} {od_number an_number : Option Addr} {sl_number : Array (Option Value)} {oc_number dc_number pm_number cd_number ct_number : Value}
    {kV_number : Value}
    (a_number : PySem.W.nsIn K mainGlobals "_law_number" = some (some (.ref x_number)))
    (l_number : K.lookup x_number = some ⟨oc_number, od_number, .func (PySem.W.fnOf "_law_number" "_law_number" (defArgs s_number) (defBody s_number) (defScope s_number) .none kV_number dc_number pm_number an_number cd_number ct_number), sl_number⟩)
    (c_number : PySem.W.codeIn K cd_number "_law_number" = true)
    (k_number : PySem.W.keepIn K (.ref x_number) = true)
    {x_text : Addr} {od_text an_text : Option Addr} {sl_text : Array (Option Value)} {oc_text dc_text pm_text cd_text ct_text : Value}
    {kV_text : Value}
    (a_text : PySem.W.nsIn K mainGlobals "_law_text" = some (some (.ref x_text)))
    (l_text : K.lookup x_text = some ⟨oc_text, od_text, .func (PySem.W.fnOf "_law_text" "_law_text" (defArgs s_text) (defBody s_text) (defScope s_text) .none kV_text dc_text pm_text an_text cd_text ct_text), sl_text⟩)
    (c_text : PySem.W.codeIn K cd_text "_law_text" = true)
    (k_text : PySem.W.keepIn K (.ref x_text) = true)
    {x_faults : Addr} {od_faults an_faults : Option Addr} {sl_faults : Array (Option Value)} {oc_faults dc_faults pm_faults cd_faults ct_faults : Value}
    {kV_faults : Value}
    (a_faults : PySem.W.nsIn K mainGlobals "_law_faults" = some (some (.ref x_faults)))
    (l_faults : K.lookup x_faults = some ⟨oc_faults, od_faults, .func (PySem.W.fnOf "_law_faults" "_law_faults" (defArgs s_faults) (defBody s_faults) (defScope s_faults) .none kV_faults dc_faults pm_faults an_faults cd_faults ct_faults), sl_faults⟩)
    (c_faults : PySem.W.codeIn K cd_faults "_law_faults" = true)
    (k_faults : PySem.W.keepIn K (.ref x_faults) = true)
    {x_zone : Addr} {od_zone an_zone : Option Addr} {sl_zone : Array (Option Value)} {oc_zone dc_zone pm_zone cd_zone ct_zone : Value}
    {kV_zone : Value}
    (a_zone : PySem.W.nsIn K mainGlobals "_law_zone" = some (some (.ref x_zone)))
    (l_zone : K.lookup x_zone = some ⟨oc_zone, od_zone, .func (PySem.W.fnOf "_law_zone" "_law_zone" (defArgs s_zone) (defBody s_zone) (defScope s_zone) .none kV_zone dc_zone pm_zone an_zone cd_zone ct_zone), sl_zone⟩)
    (c_zone : PySem.W.codeIn K cd_zone "_law_zone" = true)
    (k_zone : PySem.W.keepIn K (.ref x_zone) = true)
    {x_open_at : Addr} {od_open_at an_open_at : Option Addr} {sl_open_at : Array (Option Value)} {oc_open_at dc_open_at pm_open_at cd_open_at ct_open_at : Value}
    {kV_open_at : Value}
    (a_open_at : PySem.W.nsIn K mainGlobals "_law_open_at" = some (some (.ref x_open_at)))
    (l_open_at : K.lookup x_open_at = some ⟨oc_open_at, od_open_at, .func (PySem.W.fnOf "_law_open_at" "_law_open_at" (defArgs s_open_at) (defBody s_open_at) (defScope s_open_at) .none kV_open_at dc_open_at pm_open_at an_open_at cd_open_at ct_open_at), sl_open_at⟩)
    (c_open_at : PySem.W.codeIn K cd_open_at "_law_open_at" = true)
    (k_open_at : PySem.W.keepIn K (.ref x_open_at) = true)
    {x_passed : Addr} {od_passed an_passed : Option Addr} {sl_passed : Array (Option Value)} {oc_passed dc_passed pm_passed cd_passed ct_passed : Value}
    {kV_passed : Value}
    (a_passed : PySem.W.nsIn K mainGlobals "_law_passed" = some (some (.ref x_passed)))
    (l_passed : K.lookup x_passed = some ⟨oc_passed, od_passed, .func (PySem.W.fnOf "_law_passed" "_law_passed" (defArgs s_passed) (defBody s_passed) (defScope s_passed) .none kV_passed dc_passed pm_passed an_passed cd_passed ct_passed), sl_passed⟩)
    (c_passed : PySem.W.codeIn K cd_passed "_law_passed" = true)
    (k_passed : PySem.W.keepIn K (.ref x_passed) = true)
    {x_spots : Addr} {od_spots an_spots : Option Addr} {sl_spots : Array (Option Value)} {oc_spots dc_spots pm_spots cd_spots ct_spots : Value}
    {kV_spots : Value}
    (a_spots : PySem.W.nsIn K mainGlobals "_law_spots" = some (some (.ref x_spots)))
    (l_spots : K.lookup x_spots = some ⟨oc_spots, od_spots, .func (PySem.W.fnOf "_law_spots" "_law_spots" (defArgs s_spots) (defBody s_spots) (defScope s_spots) .none kV_spots dc_spots pm_spots an_spots cd_spots ct_spots), sl_spots⟩)
    (c_spots : PySem.W.codeIn K cd_spots "_law_spots" = true)
    (k_spots : PySem.W.keepIn K (.ref x_spots) = true)
    {x_heard : Addr} {od_heard an_heard : Option Addr} {sl_heard : Array (Option Value)} {oc_heard dc_heard pm_heard cd_heard ct_heard : Value}
    {kV_heard : Value}
    (a_heard : PySem.W.nsIn K mainGlobals "_law_heard" = some (some (.ref x_heard)))
    (l_heard : K.lookup x_heard = some ⟨oc_heard, od_heard, .func (PySem.W.fnOf "_law_heard" "_law_heard" (defArgs s_heard) (defBody s_heard) (defScope s_heard) .none kV_heard dc_heard pm_heard an_heard cd_heard ct_heard), sl_heard⟩)
    (c_heard : PySem.W.codeIn K cd_heard "_law_heard" = true)
    (k_heard : PySem.W.keepIn K (.ref x_heard) = true)
    {x_made : Addr} {od_made an_made : Option Addr} {sl_made : Array (Option Value)} {oc_made dc_made pm_made cd_made ct_made : Value}
    {kV_made : Value}
    (a_made : PySem.W.nsIn K mainGlobals "_law_made" = some (some (.ref x_made)))
    (l_made : K.lookup x_made = some ⟨oc_made, od_made, .func (PySem.W.fnOf "_law_made" "_law_made" (defArgs s_made) (defBody s_made) (defScope s_made) .none kV_made dc_made pm_made an_made cd_made ct_made), sl_made⟩)
    (c_made : PySem.W.codeIn K cd_made "_law_made" = true)
    (k_made : PySem.W.keepIn K (.ref x_made) = true)
    {x_order : Addr} {od_order an_order : Option Addr} {sl_order : Array (Option Value)} {oc_order dc_order pm_order cd_order ct_order : Value}
    {kV_order : Value}
    (a_order : PySem.W.nsIn K mainGlobals "_law_order" = some (some (.ref x_order)))
    (l_order : K.lookup x_order = some ⟨oc_order, od_order, .func (PySem.W.fnOf "_law_order" "_law_order" (defArgs s_order) (defBody s_order) (defScope s_order) .none kV_order dc_order pm_order an_order cd_order ct_order), sl_order⟩)
    (c_order : PySem.W.codeIn K cd_order "_law_order" = true)
    (k_order : PySem.W.keepIn K (.ref x_order) = true)
    {x_lots : Addr} {od_lots an_lots : Option Addr} {sl_lots : Array (Option Value)} {oc_lots dc_lots pm_lots cd_lots ct_lots : Value}
    {kV_lots : Value}
    (a_lots : PySem.W.nsIn K mainGlobals "_law_lots" = some (some (.ref x_lots)))
    (l_lots : K.lookup x_lots = some ⟨oc_lots, od_lots, .func (PySem.W.fnOf "_law_lots" "_law_lots" (defArgs s_lots) (defBody s_lots) (defScope s_lots) .none kV_lots dc_lots pm_lots an_lots cd_lots ct_lots), sl_lots⟩)
    (c_lots : PySem.W.codeIn K cd_lots "_law_lots" = true)
    (k_lots : PySem.W.keepIn K (.ref x_lots) = true)
    {x_silent : Addr} {od_silent an_silent : Option Addr} {sl_silent : Array (Option Value)} {oc_silent dc_silent pm_silent cd_silent ct_silent : Value}
    {kV_silent : Value}
    (a_silent : PySem.W.nsIn K mainGlobals "_law_silent" = some (some (.ref x_silent)))
    (l_silent : K.lookup x_silent = some ⟨oc_silent, od_silent, .func (PySem.W.fnOf "_law_silent" "_law_silent" (defArgs s_silent) (defBody s_silent) (defScope s_silent) .none kV_silent dc_silent pm_silent an_silent cd_silent ct_silent), sl_silent⟩)
    (c_silent : PySem.W.codeIn K cd_silent "_law_silent" = true)
    (k_silent : PySem.W.keepIn K (.ref x_silent) = true)
    {x_within : Addr} {od_within an_within : Option Addr} {sl_within : Array (Option Value)} {oc_within dc_within pm_within cd_within ct_within : Value}
    {kV_within : Value}
    (a_within : PySem.W.nsIn K mainGlobals "_law_within" = some (some (.ref x_within)))
    (l_within : K.lookup x_within = some ⟨oc_within, od_within, .func (PySem.W.fnOf "_law_within" "_law_within" (defArgs s_within) (defBody s_within) (defScope s_within) .none kV_within dc_within pm_within an_within cd_within ct_within), sl_within⟩)
    (c_within : PySem.W.codeIn K cd_within "_law_within" = true)
    (k_within : PySem.W.keepIn K (.ref x_within) = true)
    {x_guarded : Addr} {od_guarded an_guarded : Option Addr} {sl_guarded : Array (Option Value)} {oc_guarded dc_guarded pm_guarded cd_guarded ct_guarded : Value}
    {kV_guarded : Value}
    (a_guarded : PySem.W.nsIn K mainGlobals "_law_guarded" = some (some (.ref x_guarded)))
    (l_guarded : K.lookup x_guarded = some ⟨oc_guarded, od_guarded, .func (PySem.W.fnOf "_law_guarded" "_law_guarded" (defArgs s_guarded) (defBody s_guarded) (defScope s_guarded) .none kV_guarded dc_guarded pm_guarded an_guarded cd_guarded ct_guarded), sl_guarded⟩)
    (c_guarded : PySem.W.codeIn K cd_guarded "_law_guarded" = true)
    (k_guarded : PySem.W.keepIn K (.ref x_guarded) = true)
    {x_wwrong : Addr} {od_wwrong an_wwrong : Option Addr} {sl_wwrong : Array (Option Value)} {oc_wwrong dc_wwrong pm_wwrong cd_wwrong ct_wwrong : Value}
    {kV_wwrong : Value}
    (a_wwrong : PySem.W.nsIn K mainGlobals "_law_wrong" = some (some (.ref x_wwrong)))
    (l_wwrong : K.lookup x_wwrong = some ⟨oc_wwrong, od_wwrong, .func (PySem.W.fnOf "_law_wrong" "_law_wrong" (defArgs s_wwrong) (defBody s_wwrong) (defScope s_wwrong) .none kV_wwrong dc_wwrong pm_wwrong an_wwrong cd_wwrong ct_wwrong), sl_wwrong⟩)
    (c_wwrong : PySem.W.codeIn K cd_wwrong "_law_wrong" = true)
    (k_wwrong : PySem.W.keepIn K (.ref x_wwrong) = true)
    {x_exchanged : Addr} {od_exchanged an_exchanged : Option Addr} {sl_exchanged : Array (Option Value)} {oc_exchanged dc_exchanged pm_exchanged cd_exchanged ct_exchanged : Value}
    {kV_exchanged : Value}
    (a_exchanged : PySem.W.nsIn K mainGlobals "_law_exchanged" = some (some (.ref x_exchanged)))
    (l_exchanged : K.lookup x_exchanged = some ⟨oc_exchanged, od_exchanged, .func (PySem.W.fnOf "_law_exchanged" "_law_exchanged" (defArgs s_exchanged) (defBody s_exchanged) (defScope s_exchanged) .none kV_exchanged dc_exchanged pm_exchanged an_exchanged cd_exchanged ct_exchanged), sl_exchanged⟩)
    (c_exchanged : PySem.W.codeIn K cd_exchanged "_law_exchanged" = true)
    (k_exchanged : PySem.W.keepIn K (.ref x_exchanged) = true)
    {x_kept_out : Addr} {od_kept_out an_kept_out : Option Addr} {sl_kept_out : Array (Option Value)} {oc_kept_out dc_kept_out pm_kept_out cd_kept_out ct_kept_out : Value}
    {kV_kept_out : Value}
    (a_kept_out : PySem.W.nsIn K mainGlobals "_law_kept_out" = some (some (.ref x_kept_out)))
    (l_kept_out : K.lookup x_kept_out = some ⟨oc_kept_out, od_kept_out, .func (PySem.W.fnOf "_law_kept_out" "_law_kept_out" (defArgs s_kept_out) (defBody s_kept_out) (defScope s_kept_out) .none kV_kept_out dc_kept_out pm_kept_out an_kept_out cd_kept_out ct_kept_out), sl_kept_out⟩)
    (c_kept_out : PySem.W.codeIn K cd_kept_out "_law_kept_out" = true)
    (k_kept_out : PySem.W.keepIn K (.ref x_kept_out) = true)
    {x_changed : Addr} {od_changed an_changed : Option Addr} {sl_changed : Array (Option Value)} {oc_changed dc_changed pm_changed cd_changed ct_changed : Value}
    {kV_changed : Value}
    (a_changed : PySem.W.nsIn K mainGlobals "_law_changed" = some (some (.ref x_changed)))
    (l_changed : K.lookup x_changed = some ⟨oc_changed, od_changed, .func (PySem.W.fnOf "_law_changed" "_law_changed" (defArgs s_changed) (defBody s_changed) (defScope s_changed) .none kV_changed dc_changed pm_changed an_changed cd_changed ct_changed), sl_changed⟩)
    (c_changed : PySem.W.codeIn K cd_changed "_law_changed" = true)
    (k_changed : PySem.W.keepIn K (.ref x_changed) = true)
    {x_law : Addr} {od_law an_law : Option Addr} {sl_law : Array (Option Value)} {oc_law dc_law pm_law cd_law ct_law : Value}
    {kV_law : Value}
    (a_law : PySem.W.nsIn K mainGlobals "law" = some (some (.ref x_law)))
    (l_law : K.lookup x_law = some ⟨oc_law, od_law, .func (PySem.W.fnOf "law" "law" (defArgs s_law) (defBody s_law) (defScope s_law) .none kV_law dc_law pm_law an_law cd_law ct_law), sl_law⟩)
    (c_law : PySem.W.codeIn K cd_law "law" = true)
    (k_law : PySem.W.keepIn K (.ref x_law) = true)
    (pgR : PySem.W.plainGet K xC Str.empty = true)
    (hdR : PySem.W.hasDictIn K xC = true)
    (poR : PySem.W.plainOver K xC = true)
    (saR : PySem.W.findIn K (.ref xC) "__setattr__" = some (some (.builtin "object.__setattr__")))
    (mkR : PySem.W.makesIn K xC = true)
    (kcR : PySem.W.keepIn K (.ref xC) = true)
    (nT : PySem.W.findIn K (.ref xC) "text" = some none)
    (nS : PySem.W.findIn K (.ref xC) "seekers" = some none)
    (nZ : PySem.W.findIn K (.ref xC) "zones" = some none)
    (pg : PySem.W.plainGet K xH Str.empty = true)
    (hd : PySem.W.hasDictIn K xH = true)
    (po : PySem.W.plainOver K xH = true)
    (sa : PySem.W.findIn K (.ref xH) "__setattr__" = some (some (.builtin "object.__setattr__")))
    (mk : PySem.W.makesIn K xH = true)
    (kc : PySem.W.keepIn K (.ref xH) = true)
    (nBo : PySem.W.findIn K (.ref xH) "box" = some none)
    (nRi : PySem.W.findIn K (.ref xH) "ring" = some none)
    (nMa : PySem.W.findIn K (.ref xH) "mark" = some none)
    (nRo : PySem.W.findIn K (.ref xH) "rows" = some none)
    (nNe : PySem.W.findIn K (.ref xH) "need" = some none)
    (nLa : PySem.W.findIn K (.ref xH) "layout" = some none)
    (nSk : PySem.W.findIn K (.ref xH) "seekers" = some none)
    (ica : PySem.W.findIn K (.ref xH) "__class__" = some (some (.builtin "object.__class__")))
    (icn : PySem.W.specialIn K (.builtin "object.__class__") "__get__" = some (some (.builtin "getset_descriptor.__get__")))
    (ict : PySem.W.takesIn K (.builtin "object.__class__") = some true)
    (icm : PySem.W.mroIn K xH (.type "object") = some true)
    (kS : PySem.W.kitOne K (.ref xH) (.ref xH) = some true)
    {eCH eIH : Addr} {enmH eqH : Str} {eNH : Addr} {ebsH ebmH : List Value} {esnH : List Str} {esubH : List Value} {eabH : Bool} {ecolH : Option Bool} {eddH : Option Addr} {em0H em1H em2H em3H em5H : Option Value}
    {eocH edcH epmH ecdH ectH : Value} {eodH eanH : Option Addr} {eslH : Array (Option Value)} {ep1H ep2H eq1H eq2H eq3H eq4H : Pos}
    (e_aH : PySem.W.nsIn K mainGlobals "BadHouse" = some (some (.ref eCH)))
    (e_xH : K.lookup eCH = some (excClassObj enmH eqH eCH eNH ebsH ebmH true esnH esubH eabH ecolH eddH em0H em1H em2H em3H em5H "ValueError.__new__"))
    (e_bH : PySem.HandSPX.refsVE ebmH = true)
    (e_sH : PySem.W.findIn K (.ref eCH) "__setattr__" = some (some (.builtin "object.__setattr__"))) (e_gH : PySem.W.findIn K (.ref eCH) "__getattribute__" = some (some (.builtin "BaseException.__getattribute__"))) (e_hH : PySem.W.findIn K (.ref eCH) "__getattr__" = some none) (e_nH : PySem.W.findIn K (.ref eCH) "what" = some none)
    (e_iH : PySem.W.findIn K (.ref eCH) "__init__" = some (some (.ref eIH))) (e_tH : PySem.W.typeIn K (.ref eIH) = some (.type "function"))
    (e_lH : K.lookup eIH = some ⟨eocH, eodH, .func (PySem.W.fnOf "__init__" "BadHouse.__init__" (PySem.LowH.iA ep1H ep2H) (PySem.LowH.iB eq1H eq2H eq3H eq4H) PySem.LowH.iS .none .none edcH epmH eanH ecdH ectH), eslH⟩) (e_cH : PySem.W.codeIn K ecdH "BadHouse.__init__" = true)
    (e_kH : PySem.W.keepIn K (.ref eCH) = true) (e_eH : PySem.W.subIn K (.ref eCH) (.type "BaseException") = some true) (e_tyH : PySem.W.typeIn K (.ref eCH) = some (.type "type")) (e_dH : PySem.W.hasDictIn K eCH = true) (e_scH : PySem.W.subIn K (.ref eCH) (.ref eCH) = some true)
    {eCR eIR : Addr} {enmR eqR : Str} {eNR : Addr} {ebsR ebmR : List Value} {esnR : List Str} {esubR : List Value} {eabR : Bool} {ecolR : Option Bool} {eddR : Option Addr} {em0R em1R em2R em3R em5R : Option Value}
    {eocR edcR epmR ecdR ectR : Value} {eodR eanR : Option Addr} {eslR : Array (Option Value)} {ep1R ep2R eq1R eq2R eq3R eq4R : Pos}
    (e_aR : PySem.W.nsIn K mainGlobals "BadRing" = some (some (.ref eCR)))
    (e_xR : K.lookup eCR = some (excClassObj enmR eqR eCR eNR ebsR ebmR true esnR esubR eabR ecolR eddR em0R em1R em2R em3R em5R "ValueError.__new__"))
    (e_bR : PySem.HandSPX.refsVE ebmR = true)
    (e_sR : PySem.W.findIn K (.ref eCR) "__setattr__" = some (some (.builtin "object.__setattr__"))) (e_gR : PySem.W.findIn K (.ref eCR) "__getattribute__" = some (some (.builtin "BaseException.__getattribute__"))) (e_hR : PySem.W.findIn K (.ref eCR) "__getattr__" = some none) (e_nR : PySem.W.findIn K (.ref eCR) "text" = some none)
    (e_iR : PySem.W.findIn K (.ref eCR) "__init__" = some (some (.ref eIR))) (e_tR : PySem.W.typeIn K (.ref eIR) = some (.type "function"))
    (e_lR : K.lookup eIR = some ⟨eocR, eodR, .func (PySem.W.fnOf "__init__" "BadRing.__init__" (PySem.LowR.iA ep1R ep2R) (PySem.LowR.iB eq1R eq2R eq3R eq4R) PySem.LowR.iS .none .none edcR epmR eanR ecdR ectR), eslR⟩) (e_cR : PySem.W.codeIn K ecdR "BadRing.__init__" = true)
    (e_kR : PySem.W.keepIn K (.ref eCR) = true) (e_eR : PySem.W.subIn K (.ref eCR) (.type "BaseException") = some true) (e_tyR : PySem.W.typeIn K (.ref eCR) = some (.type "type")) (e_dR : PySem.W.hasDictIn K eCR = true) (e_scR : PySem.W.subIn K (.ref eCR) (.ref eCR) = some true)
    {eCF eIF : Addr} {enmF eqF : Str} {eNF : Addr} {ebsF ebmF : List Value} {esnF : List Str} {esubF : List Value} {eabF : Bool} {ecolF : Option Bool} {eddF : Option Addr} {em0F em1F em2F em3F em5F : Option Value}
    {eocF edcF epmF ecdF ectF : Value} {eodF eanF : Option Addr} {eslF : Array (Option Value)} {ep1F ep2F eq1F eq2F eq3F eq4F : Pos}
    (e_aF : PySem.W.nsIn K mainGlobals "BadFault" = some (some (.ref eCF)))
    (e_xF : K.lookup eCF = some (excClassObj enmF eqF eCF eNF ebsF ebmF true esnF esubF eabF ecolF eddF em0F em1F em2F em3F em5F "ValueError.__new__"))
    (e_bF : PySem.HandSPX.refsVE ebmF = true)
    (e_sF : PySem.W.findIn K (.ref eCF) "__setattr__" = some (some (.builtin "object.__setattr__"))) (e_gF : PySem.W.findIn K (.ref eCF) "__getattribute__" = some (some (.builtin "BaseException.__getattribute__"))) (e_hF : PySem.W.findIn K (.ref eCF) "__getattr__" = some none) (e_nF : PySem.W.findIn K (.ref eCF) "fault" = some none)
    (e_iF : PySem.W.findIn K (.ref eCF) "__init__" = some (some (.ref eIF))) (e_tF : PySem.W.typeIn K (.ref eIF) = some (.type "function"))
    (e_lF : K.lookup eIF = some ⟨eocF, eodF, .func (PySem.W.fnOf "__init__" "BadFault.__init__" (PySem.LowF.iA ep1F ep2F) (PySem.LowF.iB eq1F eq2F eq3F eq4F) PySem.LowF.iS .none .none edcF epmF eanF ecdF ectF), eslF⟩) (e_cF : PySem.W.codeIn K ecdF "BadFault.__init__" = true)
    (e_kF : PySem.W.keepIn K (.ref eCF) = true) (e_eF : PySem.W.subIn K (.ref eCF) (.type "BaseException") = some true) (e_tyF : PySem.W.typeIn K (.ref eCF) = some (.type "type")) (e_dF : PySem.W.hasDictIn K eCF = true) (e_scF : PySem.W.subIn K (.ref eCF) (.ref eCF) = some true)
    {eW : Addr}
    (e_w : PySem.W.nsIn K mainGlobals "WheelError" = some (some (.ref eW)))
    (kwr : PySem.W.kitOne K (.ref eCH) (.ref eW) = some true)
    (kvr : PySem.W.kitOne K (.ref eCH) (.type "ValueError") = some true)
    (e_icR : PySem.W.isClsIn K eCH = true)
    (e_haR : PySem.W.findIn K (.ref eCH) "__class__" = some (some (.builtin "object.__class__")))
    (e_hmR : PySem.W.mroIn K eCH (.type "object") = some true)
    {t_DIGITS : Tok}
    (n_DIGITS : PySem.W.nsIn K mainGlobals "DIGITS" = some (some (.str "123456789" t_DIGITS)))
    {t_MOST_DIGITS : Tok}
    (n_MOST_DIGITS : PySem.W.nsIn K mainGlobals "MOST_DIGITS" = some (some (.int 4 t_MOST_DIGITS)))
    {t_GREATEST_SUM : Tok}
    (n_GREATEST_SUM : PySem.W.nsIn K mainGlobals "GREATEST_SUM" = some (some (.int 24 t_GREATEST_SUM)))
    {t_MOST_SIGNS : Tok}
    (n_MOST_SIGNS : PySem.W.nsIn K mainGlobals "MOST_SIGNS" = some (some (.int 10 t_MOST_SIGNS)))
    {t_SEEKER : Tok}
    (n_SEEKER : PySem.W.nsIn K mainGlobals "SEEKER" = some (some (.str "s" t_SEEKER)))
    {t_OPENER : Tok}
    (n_OPENER : PySem.W.nsIn K mainGlobals "OPENER" = some (some (.str "o" t_OPENER)))
    {t_CUT : Tok}
    (n_CUT : PySem.W.nsIn K mainGlobals "CUT" = some (some (.str "cut" t_CUT)))
    {t_SHORT : Tok}
    (n_SHORT : PySem.W.nsIn K mainGlobals "SHORT" = some (some (.str "short" t_SHORT)))
    {t_LEFT : Tok}
    (n_LEFT : PySem.W.nsIn K mainGlobals "LEFT" = some (some (.str "left" t_LEFT)))
    {t_RIGHT : Tok}
    (n_RIGHT : PySem.W.nsIn K mainGlobals "RIGHT" = some (some (.str "right" t_RIGHT)))
    {t_MOST_ROWS : Tok}
    (n_MOST_ROWS : PySem.W.nsIn K mainGlobals "MOST_ROWS" = some (some (.int 8 t_MOST_ROWS)))
    (z_ValueError : PySem.W.nsIn K mainGlobals "ValueError" = some none)
    (z_abs : PySem.W.nsIn K mainGlobals "abs" = some none)
    (z_all : PySem.W.nsIn K mainGlobals "all" = some none)
    (z_bool : PySem.W.nsIn K mainGlobals "bool" = some none)
    (z_enumerate : PySem.W.nsIn K mainGlobals "enumerate" = some none)
    (z_int : PySem.W.nsIn K mainGlobals "int" = some none)
    (z_isinstance : PySem.W.nsIn K mainGlobals "isinstance" = some none)
    (z_len : PySem.W.nsIn K mainGlobals "len" = some none)
    (z_list : PySem.W.nsIn K mainGlobals "list" = some none)
    (z_min : PySem.W.nsIn K mainGlobals "min" = some none)
    (z_range : PySem.W.nsIn K mainGlobals "range" = some none)
    (z_set : PySem.W.nsIn K mainGlobals "set" = some none)
    (z_sorted : PySem.W.nsIn K mainGlobals "sorted" = some none)
    (z_str : PySem.W.nsIn K mainGlobals "str" = some none)
    (z_sum : PySem.W.nsIn K mainGlobals "sum" = some none)
    (z_tuple : PySem.W.nsIn K mainGlobals "tuple" = some none)
    : ∃ fd : FuncData, (∀ (s : Shared) (v : Value), BindsTo s fd ⟨[v], []⟩ [("_law_script", v)]) ∧ ∀ base : Heap, K.In base → base.Ns mainGlobals mg → FnOk l.prog w K mg base CX0 13 fa fd ["_law_script"] (sp_law K) := by
  have e := hfa.symm.trans (PySem.W.mg_of X G a_law)
  cases e
  have F_is_whole := fun_mk (st := s_is_whole) l_is_whole c_is_whole k_is_whole
  have b_is_whole := F_is_whole.binds (ps := ["thing"]) fun _ _ _ _ _ _ us hl => match us, hl with | [_], _ => rfl
  have F_is_whole_within := fun_mk (st := s_is_whole_within) l_is_whole_within c_is_whole_within k_is_whole_within
  have b_is_whole_within := F_is_whole_within.binds (ps := ["thing", "low", "high"]) fun _ _ _ _ _ _ us hl => match us, hl with | [_, _, _], _ => rfl
  have F_is_number := fun_mk (st := s_is_number) l_is_number c_is_number k_is_number
  have b_is_number := F_is_number.binds (ps := ["thing"]) fun _ _ _ _ _ _ us hl => match us, hl with | [_], _ => rfl
  have F_is_ring_text := fun_mk (st := s_is_ring_text) l_is_ring_text c_is_ring_text k_is_ring_text
  have b_is_ring_text := F_is_ring_text.binds (ps := ["thing"]) fun _ _ _ _ _ _ us hl => match us, hl with | [_], _ => rfl
  have F_zones_of := fun_mk (st := s_zones_of) l_zones_of c_zones_of k_zones_of
  have b_zones_of := F_zones_of.binds (ps := ["text"]) fun _ _ _ _ _ _ us hl => match us, hl with | [_], _ => rfl
  have F_init := fun_mk (st := s_init) l_init c_init k_init
  have b_init := F_init.binds (ps := ["self", "text"]) fun _ _ _ _ _ _ us hl => match us, hl with | [_, _], _ => rfl
  have F_all_faults := fun_mk (st := s_all_faults) l_all_faults c_all_faults k_all_faults
  have b_all_faults := F_all_faults.binds (ps := ["self"]) fun _ _ _ _ _ _ us hl => match us, hl with | [_], _ => rfl
  have F_check_fault := fun_mk (st := s_check_fault) l_check_fault c_check_fault k_check_fault
  have b_check_fault := F_check_fault.binds (ps := ["self", "thing"]) fun _ _ _ _ _ _ us hl => match us, hl with | [_, _], _ => rfl
  have F_check_faults := fun_mk (st := s_check_faults) l_check_faults c_check_faults k_check_faults
  have b_check_faults := F_check_faults.binds (ps := ["self", "faults"]) fun _ _ _ _ _ _ us hl => match us, hl with | [_, _], _ => rfl
  have F_zone_of := fun_mk (st := s_zone_of) l_zone_of c_zone_of k_zone_of
  have b_zone_of := F_zone_of.binds (ps := ["self", "stretch"]) fun _ _ _ _ _ _ us hl => match us, hl with | [_, _], _ => rfl
  have F_closed_stretches := fun_mk (st := s_closed_stretches) l_closed_stretches c_closed_stretches k_closed_stretches
  have b_closed_stretches := F_closed_stretches.binds (ps := ["self", "faults"]) fun _ _ _ _ _ _ us hl => match us, hl with | [_, _], _ => rfl
  have F_passed_from := fun_mk (st := s_passed_from) l_passed_from c_passed_from k_passed_from
  have b_passed_from := F_passed_from.binds (ps := ["self", "end", "faults"]) fun _ _ _ _ _ _ us hl => match us, hl with | [_, _, _], _ => rfl
  have F_reached := fun_mk (st := s_reached) l_reached c_reached k_reached
  have b_reached := F_reached.binds (ps := ["self", "faults"]) fun _ _ _ _ _ _ us hl => match us, hl with | [_, _], _ => rfl
  have F_hinit : FunD K "__init__" "House.__init__" (defArgs s_hinit) (defBody s_hinit) (defScope s_hinit) [] [("need", V.int 1)] x_hinit _ := ⟨⟨_, _, _, _, _, _, _, _, _, _, rfl, l_hinit, c_hinit, .inl ⟨rfl, rfl⟩, .inr ⟨xD, rfl, fun q m => by rw [List.mem_singleton.mp m]; exact ⟨_, e_hinit, ⟨_, rfl⟩⟩⟩⟩, k_hinit⟩
  have kb2 := F_hinit.kbinds0 (ps := ["self", "box", "ring", "mark", "rows", "need"]) 3 ["mark", "rows"] [("need", V.int 1)] (fun vs mz zs => vs ++ zs ++ mz) (by decide) (fun _ h => h) (fun a b c => (a.append c).append b) fun D doc pm an cdv ct us mv ws h1 h2 h3 => match us, mv, ws, h1, h2, h3 with | [_, _, _], [_], [_, _], _, _, _ => ⟨_, _, _, _, _, _, rfl, rfl, rfl⟩
  obtain ⟨mH, kb2⟩ := kb2
  have kb3 := F_hinit.kbinds0 (ps := ["self", "box", "ring", "mark", "rows", "need"]) 3 ["mark", "rows", "need"] [] (fun vs mz zs => vs ++ zs) (by decide) (fun _ h => absurd h (by simp)) (fun a b c => a.append c) fun D doc pm an cdv ct us mv ws h1 h2 h3 => match us, mv, ws, h1, h2, h3 with | [_, _, _], [], [_, _, _], _, _, _ => rfl
  obtain ⟨_, kb3⟩ := kb3
  have F_heq := fun_mk (st := s_heq) l_heq c_heq k_heq
  have b_heq := F_heq.binds (ps := ["self", "other"]) fun _ _ _ _ _ _ us hl => match us, hl with | [_, _], _ => rfl
  have F_with_rules : FunD K "with_rules" "House.with_rules" (defArgs s_with_rules) (defBody s_with_rules) (defScope s_with_rules) [] [("ring", V.non), ("mark", V.non), ("rows", V.non), ("need", V.non)] x_with_rules _ := ⟨⟨_, _, _, _, _, _, _, _, _, _, rfl, l_with_rules, c_with_rules, .inl ⟨rfl, rfl⟩, .inr ⟨xR, rfl, fun q m => by
    rcases List.mem_cons.mp m with rfl | m
    · exact ⟨_, e_w0, rfl⟩
    rcases List.mem_cons.mp m with rfl | m
    · exact ⟨_, e_w1, rfl⟩
    rcases List.mem_cons.mp m with rfl | m
    · exact ⟨_, e_w2, rfl⟩
    · rw [List.mem_singleton.mp m]; exact ⟨_, e_w3, rfl⟩⟩⟩, k_with_rules⟩
  have kwW := F_with_rules.kbinds0 (ps := ["self", "ring", "mark", "rows", "need"]) 1 [] [("ring", V.non), ("mark", V.non), ("rows", V.non), ("need", V.non)] (fun vs mz zs => vs ++ (mz)) (by decide) (by decide +kernel) (fun a b c => a.append b) fun D doc pm an cdv ct us mv ws h1 h2 h3 => match us, mv, ws, h1, h2, h3 with | [_], [_, _, _, _], [], _, _, _ => ⟨_, _, _, _, _, _, rfl, rfl, _, _, _, _, _, _, rfl, rfl, _, _, _, _, _, _, rfl, rfl, _, _, _, _, _, _, rfl, rfl, rfl⟩
  obtain ⟨mW, kwW⟩ := kwW
  have kwWM := F_with_rules.kbinds0 (ps := ["self", "ring", "mark", "rows", "need"]) 1 ["mark"] [("ring", V.non), ("rows", V.non), ("need", V.non)] (fun vs mz zs => vs ++ (mz.take 1 ++ zs ++ mz.drop 1)) (by decide) (by decide +kernel) (fun a b c => a.append (((b.take 1).append c).append (b.drop 1))) fun D doc pm an cdv ct us mv ws h1 h2 h3 => match us, mv, ws, h1, h2, h3 with | [_], [_, _, _], [_], _, _, _ => ⟨_, _, _, _, _, _, rfl, rfl, _, _, _, _, _, _, rfl, rfl, _, _, _, _, _, _, rfl, rfl, rfl⟩
  obtain ⟨mWM, kwWM⟩ := kwWM
  have kwWR := F_with_rules.kbinds0 (ps := ["self", "ring", "mark", "rows", "need"]) 1 ["rows"] [("ring", V.non), ("mark", V.non), ("need", V.non)] (fun vs mz zs => vs ++ (mz.take 2 ++ zs ++ mz.drop 2)) (by decide) (by decide +kernel) (fun a b c => a.append (((b.take 2).append c).append (b.drop 2))) fun D doc pm an cdv ct us mv ws h1 h2 h3 => match us, mv, ws, h1, h2, h3 with | [_], [_, _, _], [_], _, _, _ => ⟨_, _, _, _, _, _, rfl, rfl, _, _, _, _, _, _, rfl, rfl, _, _, _, _, _, _, rfl, rfl, rfl⟩
  obtain ⟨mWR, kwWR⟩ := kwWR
  have kwWG := F_with_rules.kbinds0 (ps := ["self", "ring", "mark", "rows", "need"]) 1 ["ring"] [("mark", V.non), ("rows", V.non), ("need", V.non)] (fun vs mz zs => vs ++ (zs ++ mz)) (by decide) (by decide +kernel) (fun a b c => a.append (c.append b)) fun D doc pm an cdv ct us mv ws h1 h2 h3 => match us, mv, ws, h1, h2, h3 with | [_], [_, _, _], [_], _, _, _ => ⟨_, _, _, _, _, _, rfl, rfl, _, _, _, _, _, _, rfl, rfl, _, _, _, _, _, _, rfl, rfl, rfl⟩
  obtain ⟨mWG, kwWG⟩ := kwWG
  have kwWN := F_with_rules.kbinds0 (ps := ["self", "ring", "mark", "rows", "need"]) 1 ["need"] [("ring", V.non), ("mark", V.non), ("rows", V.non)] (fun vs mz zs => vs ++ (mz ++ zs)) (by decide) (by decide +kernel) (fun a b c => a.append (b.append c)) fun D doc pm an cdv ct us mv ws h1 h2 h3 => match us, mv, ws, h1, h2, h3 with | [_], [_, _, _], [_], _, _, _ => ⟨_, _, _, _, _, _, rfl, rfl, _, _, _, _, _, _, rfl, rfl, _, _, _, _, _, _, rfl, rfl, rfl⟩
  obtain ⟨mWN, kwWN⟩ := kwWN
  have kwWGN := F_with_rules.kbinds0 (ps := ["self", "ring", "mark", "rows", "need"]) 1 ["ring", "need"] [("mark", V.non), ("rows", V.non)] (fun vs mz zs => vs ++ (zs.take 1 ++ mz ++ zs.drop 1)) (by decide) (by decide +kernel) (fun a b c => a.append (((c.take 1).append b).append (c.drop 1))) fun D doc pm an cdv ct us mv ws h1 h2 h3 => match us, mv, ws, h1, h2, h3 with | [_], [_, _], [_, _], _, _, _ => ⟨_, _, _, _, _, _, rfl, rfl, _, _, _, _, _, _, rfl, rfl, rfl⟩
  obtain ⟨mWGN, kwWGN⟩ := kwWGN
  have kwWGR := F_with_rules.kbinds0 (ps := ["self", "ring", "mark", "rows", "need"]) 1 ["ring", "rows"] [("mark", V.non), ("need", V.non)] (fun vs mz zs => vs ++ (zs.take 1 ++ mz.take 1 ++ zs.drop 1 ++ mz.drop 1)) (by decide) (by decide +kernel) (fun a b c => a.append ((((c.take 1).append (b.take 1)).append (c.drop 1)).append (b.drop 1))) fun D doc pm an cdv ct us mv ws h1 h2 h3 => match us, mv, ws, h1, h2, h3 with | [_], [_, _], [_, _], _, _, _ => ⟨_, _, _, _, _, _, rfl, rfl, _, _, _, _, _, _, rfl, rfl, rfl⟩
  obtain ⟨mWGR, kwWGR⟩ := kwWGR
  have kwWNM := F_with_rules.kbinds0 (ps := ["self", "ring", "mark", "rows", "need"]) 1 ["need", "mark"] [("ring", V.non), ("rows", V.non)] (fun vs mz zs => vs ++ (mz.take 1 ++ zs.drop 1 ++ mz.drop 1 ++ zs.take 1)) (by decide) (by decide +kernel) (fun a b c => a.append ((((b.take 1).append (c.drop 1)).append (b.drop 1)).append (c.take 1))) fun D doc pm an cdv ct us mv ws h1 h2 h3 => match us, mv, ws, h1, h2, h3 with | [_], [_, _], [_, _], _, _, _ => ⟨_, _, _, _, _, _, rfl, rfl, _, _, _, _, _, _, rfl, rfl, rfl⟩
  obtain ⟨mWNM, kwWNM⟩ := kwWNM
  have F_is_silent := fun_mk (st := s_is_silent) l_is_silent c_is_silent k_is_silent
  have F_silent_faults := fun_mk (st := s_silent_faults) l_silent_faults c_silent_faults k_silent_faults
  have b_silent_faults := F_silent_faults.binds (ps := ["self"]) fun _ _ _ _ _ _ us hl => match us, hl with | [_], _ => rfl
  have F_least_lots := fun_mk (st := s_least_lots) l_least_lots c_least_lots k_least_lots
  have b_least_lots := F_least_lots.binds (ps := ["self"]) fun _ _ _ _ _ _ us hl => match us, hl with | [_], _ => rfl
  have F_guarded_ring := fun_mk (st := s_guarded_ring) l_guarded_ring c_guarded_ring k_guarded_ring
  have b_guarded_ring := F_guarded_ring.binds (ps := ["seekers", "need"]) fun _ _ _ _ _ _ us hl => match us, hl with | [_, _], _ => rfl
  have F_open := fun_mk (st := s_open) l_open c_open k_open
  have b_open := F_open.binds (ps := ["_law_script"]) fun _ _ _ _ _ _ us hl => match us, hl with | [_], _ => rfl
  have F_draw := fun_mk (st := s_draw) l_draw c_draw k_draw
  have b_draw := F_draw.binds (ps := ["_law_state", "_law_many"]) fun _ _ _ _ _ _ us hl => match us, hl with | [_, _], _ => rfl
  have F_number := fun_mk (st := s_number) l_number c_number k_number
  have b_number := F_number.binds (ps := ["_law_state"]) fun _ _ _ _ _ _ us hl => match us, hl with | [_], _ => rfl
  have F_text := fun_mk (st := s_text) l_text c_text k_text
  have b_text := F_text.binds (ps := ["_law_state"]) fun _ _ _ _ _ _ us hl => match us, hl with | [_], _ => rfl
  have F_faults := fun_mk (st := s_faults) l_faults c_faults k_faults
  have b_faults := F_faults.binds (ps := ["_law_state", "_law_text_here", "_law_many"]) fun _ _ _ _ _ _ us hl => match us, hl with | [_, _, _], _ => rfl
  have F_zone := fun_mk (st := s_zone) l_zone c_zone k_zone
  have b_zone := F_zone.binds (ps := ["_law_text_here", "_law_stretch"]) fun _ _ _ _ _ _ us hl => match us, hl with | [_, _], _ => rfl
  have F_open_at := fun_mk (st := s_open_at) l_open_at c_open_at k_open_at
  have b_open_at := F_open_at.binds (ps := ["_law_text_here", "_law_faults_here", "_law_stretch"]) fun _ _ _ _ _ _ us hl => match us, hl with | [_, _, _], _ => rfl
  have F_passed := fun_mk (st := s_passed) l_passed c_passed k_passed
  have b_passed := F_passed.binds (ps := ["_law_text_here", "_law_faults_here", "_law_stretches"]) fun _ _ _ _ _ _ us hl => match us, hl with | [_, _, _], _ => rfl
  have F_spots := fun_mk (st := s_spots) l_spots c_spots k_spots
  have b_spots := F_spots.binds (ps := ["_law_text_here"]) fun _ _ _ _ _ _ us hl => match us, hl with | [_], _ => rfl
  have F_heard := fun_mk (st := s_heard) l_heard c_heard k_heard
  have b_heard := F_heard.binds (ps := ["_law_text_here", "_law_faults_here"]) fun _ _ _ _ _ _ us hl => match us, hl with | [_, _], _ => rfl
  have F_made := fun_mk (st := s_made) l_made c_made k_made
  have b_made := F_made.binds (ps := ["_law_box", "_law_text_here", "_law_bar", "_law_steps", "_law_least"]) fun _ _ _ _ _ _ us hl => match us, hl with | [_, _, _, _, _], _ => rfl
  have F_order := fun_mk (st := s_order) l_order c_order k_order
  have b_order := F_order.binds (ps := ["_law_text_here", "_law_lot"]) fun _ _ _ _ _ _ us hl => match us, hl with | [_, _], _ => rfl
  have F_lots := fun_mk (st := s_lots) l_lots c_lots k_lots
  have b_lots := F_lots.binds (ps := ["_law_text_here", "_law_least", "_law_lots_here"]) fun _ _ _ _ _ _ us hl => match us, hl with | [_, _, _], _ => rfl
  have F_silent := fun_mk (st := s_silent) l_silent c_silent k_silent
  have b_silent := F_silent.binds (ps := ["_law_house", "_law_faults_here"]) fun _ _ _ _ _ _ us hl => match us, hl with | [_, _], _ => rfl
  have F_within := fun_mk (st := s_within) l_within c_within k_within
  have b_within := F_within.binds (ps := ["_law_lots_here", "_law_faults_here"]) fun _ _ _ _ _ _ us hl => match us, hl with | [_, _], _ => rfl
  have F_guarded := fun_mk (st := s_guarded) l_guarded c_guarded k_guarded
  have b_guarded := F_guarded.binds (ps := ["_law_state"]) fun _ _ _ _ _ _ us hl => match us, hl with | [_], _ => rfl
  have F_wwrong := fun_mk (st := s_wwrong) l_wwrong c_wwrong k_wwrong
  have b_wwrong := F_wwrong.binds (ps := ["_law_state", "_law_box", "_law_text_here", "_law_many"]) fun _ _ _ _ _ _ us hl => match us, hl with | [_, _, _, _], _ => rfl
  have F_exchanged := fun_mk (st := s_exchanged) l_exchanged c_exchanged k_exchanged
  have b_exchanged := F_exchanged.binds (ps := ["_law_house", "_law_text_here", "_law_bar", "_law_steps", "_law_least"]) fun _ _ _ _ _ _ us hl => match us, hl with | [_, _, _, _, _], _ => rfl
  have F_kept_out := fun_mk (st := s_kept_out) l_kept_out c_kept_out k_kept_out
  have b_kept_out := F_kept_out.binds (ps := ["_law_house"]) fun _ _ _ _ _ _ us hl => match us, hl with | [_], _ => rfl
  have F_changed := fun_mk (st := s_changed) l_changed c_changed k_changed
  have b_changed := F_changed.binds (ps := ["_law_state", "_law_house", "_law_text_here", "_law_bar", "_law_steps", "_law_least"]) fun _ _ _ _ _ _ us hl => match us, hl with | [_, _, _, _, _, _], _ => rfl
  have F_law := fun_mk (st := s_law) l_law c_law k_law
  have b_law := F_law.binds (ps := ["_law_script"]) fun _ _ _ _ _ _ us hl => match us, hl with | [_], _ => rfl
  have lowH : PySem.LowH.LowTxt K mg eCH eIH :=
    { gC := PySem.W.mg_of X G e_aH, cls := ⟨enmH, eqH, eNH, ebsH, _, esnH, esubH, eabH, ecolH, eddH, em0H, em1H, em2H, em3H, em5H, e_xH, e_bH⟩, sa := e_sH, ga := e_gH, gg := e_hH, noN := e_nH, iC := e_iH, tC := e_tH, kC := e_kH, exC := e_eH, tyC := e_tyH, hdC := e_dH, te := PySem.W.exm_ref e_eH e_dH e_tyH e_scH,
      fn := ⟨_, _, _, _, _, _, _, _, _, _, _, _, _, _, e_lH, e_cH⟩ }
  have lowR : PySem.LowR.LowTxt K mg eCR eIR :=
    { gC := PySem.W.mg_of X G e_aR, cls := ⟨enmR, eqR, eNR, ebsR, _, esnR, esubR, eabR, ecolR, eddR, em0R, em1R, em2R, em3R, em5R, e_xR, e_bR⟩, sa := e_sR, ga := e_gR, gg := e_hR, noN := e_nR, iC := e_iR, tC := e_tR, kC := e_kR, exC := e_eR, tyC := e_tyR, hdC := e_dR, te := PySem.W.exm_ref e_eR e_dR e_tyR e_scR,
      fn := ⟨_, _, _, _, _, _, _, _, _, _, _, _, _, _, e_lR, e_cR⟩ }
  have lowF : PySem.LowF.LowTxt K mg eCF eIF :=
    { gC := PySem.W.mg_of X G e_aF, cls := ⟨enmF, eqF, eNF, ebsF, _, esnF, esubF, eabF, ecolF, eddF, em0F, em1F, em2F, em3F, em5F, e_xF, e_bF⟩, sa := e_sF, ga := e_gF, gg := e_hF, noN := e_nF, iC := e_iF, tC := e_tF, kC := e_kF, exC := e_eF, tyC := e_tyF, hdC := e_dF, te := PySem.W.exm_ref e_eF e_dF e_tyF e_scF,
      fn := ⟨_, _, _, _, _, _, _, _, _, _, _, _, _, _, e_lF, e_cF⟩ }
  have T : Σ' T : Txt K mg, T.a_law = fa ∧ T.d_law = PySem.W.fnOf "law" "law" (defArgs s_law) (defBody s_law) (defScope s_law) .none kV_law dc_law pm_law an_law cd_law ct_law :=
    ⟨{ C := xC, gC := PySem.W.mg_of X G axC, clC := ⟨pgR, hdR, poR, saR⟩,
        HC := xH, gHC := PySem.W.mg_of X G axH, clHC := ⟨pg, hd, po, sa⟩,
        isi := ⟨ica, icn, ict, icm⟩, kS := kS,
        nT := nT, nS := nS, nZ := nZ, nBo := nBo, nRi := nRi, nMa := nMa, nRo := nRo, nNe := nNe, nLa := nLa, nSk := nSk,
        sfC := (by unfold PySem.W.notFirst; simp),
        CH := _, fH := _, lowH := lowH, CR := _, fR := _, lowR := lowR, CF := _, fF := _, lowF := lowF,
        Wc := _, gWc := PySem.W.mg_of X G e_w, kWR := kwr, kVR := kvr, xcR := ⟨e_gH, e_hH, e_eH, e_dH, e_haR, icn, ict, e_hmR⟩, cliR := e_icR,
        aEq := a_heq, iEq := i_heq,
        a_is_whole := _, d_is_whole := _, F_is_whole := F_is_whole, b_is_whole := b_is_whole, g_is_whole := PySem.W.mg_of X G a_is_whole,
        a_is_whole_within := _, d_is_whole_within := _, F_is_whole_within := F_is_whole_within, b_is_whole_within := b_is_whole_within, g_is_whole_within := PySem.W.mg_of X G a_is_whole_within,
        a_is_number := _, d_is_number := _, F_is_number := F_is_number, b_is_number := b_is_number, g_is_number := PySem.W.mg_of X G a_is_number,
        a_is_ring_text := _, d_is_ring_text := _, F_is_ring_text := F_is_ring_text, b_is_ring_text := b_is_ring_text, g_is_ring_text := PySem.W.mg_of X G a_is_ring_text,
        a_zones_of := _, d_zones_of := _, F_zones_of := F_zones_of, b_zones_of := b_zones_of, g_zones_of := PySem.W.mg_of X G a_zones_of,
        a_init := _, d_init := _, F_init := F_init, b_init := b_init, mk_init := ⟨mkR, a_init, i_init, kcR⟩,
        a_all_faults := _, d_all_faults := _, F_all_faults := F_all_faults, b_all_faults := b_all_faults, m_all_faults := ⟨a_all_faults, i_all_faults, k_all_faults⟩,
        a_check_fault := _, d_check_fault := _, F_check_fault := F_check_fault, b_check_fault := b_check_fault, m_check_fault := ⟨a_check_fault, i_check_fault, k_check_fault⟩,
        a_check_faults := _, d_check_faults := _, F_check_faults := F_check_faults, b_check_faults := b_check_faults, m_check_faults := ⟨a_check_faults, i_check_faults, k_check_faults⟩,
        a_zone_of := _, d_zone_of := _, F_zone_of := F_zone_of, b_zone_of := b_zone_of, m_zone_of := ⟨a_zone_of, i_zone_of, k_zone_of⟩,
        a_closed_stretches := _, d_closed_stretches := _, F_closed_stretches := F_closed_stretches, b_closed_stretches := b_closed_stretches, m_closed_stretches := ⟨a_closed_stretches, i_closed_stretches, k_closed_stretches⟩,
        a_passed_from := _, d_passed_from := _, F_passed_from := F_passed_from, b_passed_from := b_passed_from, m_passed_from := ⟨a_passed_from, i_passed_from, k_passed_from⟩,
        a_reached := _, d_reached := _, F_reached := F_reached, b_reached := b_reached, m_reached := ⟨a_reached, i_reached, k_reached⟩,
        a_hinit := _, d_hinit := _, F_hinit := F_hinit, mk_hinit := ⟨mk, a_hinit, i_hinit, kc⟩, mH := mH, kbH2 := kb2, kbH3 := kb3,
        a_heq := _, d_heq := _, F_heq := F_heq, b_heq := b_heq, m_heq := ⟨a_heq, i_heq, k_heq⟩,
        a_with_rules := _, d_with_rules := _, F_with_rules := F_with_rules, m_with_rules := ⟨a_with_rules, i_with_rules, k_with_rules⟩, mW := mW, kwW := kwW, mWM := mWM, kwWM := kwWM, mWR := mWR, kwWR := kwWR, mWG := mWG, kwWG := kwWG, mWN := mWN, kwWN := kwWN, mWGN := mWGN, kwWGN := kwWGN, mWGR := mWGR, kwWGR := kwWGR, mWNM := mWNM, kwWNM := kwWNM,
        a_is_silent := _, d_is_silent := _, F_is_silent := F_is_silent, m_is_silent := ⟨a_is_silent, i_is_silent, k_is_silent⟩,
        a_silent_faults := _, d_silent_faults := _, F_silent_faults := F_silent_faults, b_silent_faults := b_silent_faults, m_silent_faults := ⟨a_silent_faults, i_silent_faults, k_silent_faults⟩,
        a_least_lots := _, d_least_lots := _, F_least_lots := F_least_lots, b_least_lots := b_least_lots, m_least_lots := ⟨a_least_lots, i_least_lots, k_least_lots⟩,
        a_guarded_ring := _, d_guarded_ring := _, F_guarded_ring := F_guarded_ring, b_guarded_ring := b_guarded_ring, g_guarded_ring := PySem.W.mg_of X G a_guarded_ring,
        a_open := _, d_open := _, F_open := F_open, b_open := b_open, g_open := PySem.W.mg_of X G a_open,
        a_draw := _, d_draw := _, F_draw := F_draw, b_draw := b_draw, g_draw := PySem.W.mg_of X G a_draw,
        a_number := _, d_number := _, F_number := F_number, b_number := b_number, g_number := PySem.W.mg_of X G a_number,
        a_text := _, d_text := _, F_text := F_text, b_text := b_text, g_text := PySem.W.mg_of X G a_text,
        a_faults := _, d_faults := _, F_faults := F_faults, b_faults := b_faults, g_faults := PySem.W.mg_of X G a_faults,
        a_zone := _, d_zone := _, F_zone := F_zone, b_zone := b_zone, g_zone := PySem.W.mg_of X G a_zone,
        a_open_at := _, d_open_at := _, F_open_at := F_open_at, b_open_at := b_open_at, g_open_at := PySem.W.mg_of X G a_open_at,
        a_passed := _, d_passed := _, F_passed := F_passed, b_passed := b_passed, g_passed := PySem.W.mg_of X G a_passed,
        a_spots := _, d_spots := _, F_spots := F_spots, b_spots := b_spots, g_spots := PySem.W.mg_of X G a_spots,
        a_heard := _, d_heard := _, F_heard := F_heard, b_heard := b_heard, g_heard := PySem.W.mg_of X G a_heard,
        a_made := _, d_made := _, F_made := F_made, b_made := b_made, g_made := PySem.W.mg_of X G a_made,
        a_order := _, d_order := _, F_order := F_order, b_order := b_order, g_order := PySem.W.mg_of X G a_order,
        a_lots := _, d_lots := _, F_lots := F_lots, b_lots := b_lots, g_lots := PySem.W.mg_of X G a_lots,
        a_silent := _, d_silent := _, F_silent := F_silent, b_silent := b_silent, g_silent := PySem.W.mg_of X G a_silent,
        a_within := _, d_within := _, F_within := F_within, b_within := b_within, g_within := PySem.W.mg_of X G a_within,
        a_guarded := _, d_guarded := _, F_guarded := F_guarded, b_guarded := b_guarded, g_guarded := PySem.W.mg_of X G a_guarded,
        a_wwrong := _, d_wwrong := _, F_wwrong := F_wwrong, b_wwrong := b_wwrong, g_wwrong := PySem.W.mg_of X G a_wwrong,
        a_exchanged := _, d_exchanged := _, F_exchanged := F_exchanged, b_exchanged := b_exchanged, g_exchanged := PySem.W.mg_of X G a_exchanged,
        a_kept_out := _, d_kept_out := _, F_kept_out := F_kept_out, b_kept_out := b_kept_out, g_kept_out := PySem.W.mg_of X G a_kept_out,
        a_changed := _, d_changed := _, F_changed := F_changed, b_changed := b_changed, g_changed := PySem.W.mg_of X G a_changed,
        a_law := _, d_law := _, F_law := F_law, b_law := b_law, g_law := PySem.W.mg_of X G a_law,
        t_DIGITS := _, c_DIGITS := PySem.W.mg_of X G n_DIGITS,
        t_MOST_DIGITS := _, c_MOST_DIGITS := PySem.W.mg_of X G n_MOST_DIGITS,
        t_GREATEST_SUM := _, c_GREATEST_SUM := PySem.W.mg_of X G n_GREATEST_SUM,
        t_MOST_SIGNS := _, c_MOST_SIGNS := PySem.W.mg_of X G n_MOST_SIGNS,
        t_SEEKER := _, c_SEEKER := PySem.W.mg_of X G n_SEEKER,
        t_OPENER := _, c_OPENER := PySem.W.mg_of X G n_OPENER,
        t_CUT := _, c_CUT := PySem.W.mg_of X G n_CUT,
        t_SHORT := _, c_SHORT := PySem.W.mg_of X G n_SHORT,
        t_LEFT := _, c_LEFT := PySem.W.mg_of X G n_LEFT,
        t_RIGHT := _, c_RIGHT := PySem.W.mg_of X G n_RIGHT,
        t_MOST_ROWS := _, c_MOST_ROWS := PySem.W.mg_of X G n_MOST_ROWS,
        z_ValueError := PySem.W.mg_none_of X G z_ValueError,
        z_abs := PySem.W.mg_none_of X G z_abs,
        z_all := PySem.W.mg_none_of X G z_all,
        z_bool := PySem.W.mg_none_of X G z_bool,
        z_enumerate := PySem.W.mg_none_of X G z_enumerate,
        z_int := PySem.W.mg_none_of X G z_int,
        z_isinstance := PySem.W.mg_none_of X G z_isinstance,
        z_len := PySem.W.mg_none_of X G z_len,
        z_list := PySem.W.mg_none_of X G z_list,
        z_min := PySem.W.mg_none_of X G z_min,
        z_range := PySem.W.mg_none_of X G z_range,
        z_set := PySem.W.mg_none_of X G z_set,
        z_sorted := PySem.W.mg_none_of X G z_sorted,
        z_str := PySem.W.mg_none_of X G z_str,
        z_sum := PySem.W.mg_none_of X G z_sum,
        z_tuple := PySem.W.mg_none_of X G z_tuple }, rfl, rfl⟩
  obtain ⟨T, e1, e2⟩ := T
  subst e1
  refine ⟨T.d_law, fun s v => by rw [e2]; exact .of_eq rfl, fun base _ _ => ok_law T⟩
theorem walk {l : PySem.W.OpenLaw} {q : Program} {loose : List Str} {XP : (Str → Option Value) → Heap → Prop} {YP : World → Heap → Prop} {d : DefRec} {K : Params → PySem.W.Frag} (hn : l.most = some 63) (hdf : d.params.defaults = [])
    (hY : ∀ (w : World) (h : Heap), YP w h → (K w.params).In h)
    (F : ∀ (w : World) (mg : Str → Option Value) (fa : Addr) (h : Heap), (K w.params).In h → h.Ns mainGlobals mg → mg d.name = some (.ref fa) →
      ∃ fd : FuncData, (∀ (s : Shared) (u : Value), BindsTo s fd ⟨[u], []⟩ [("_law_script", u)]) ∧ ∀ base : Heap, (K w.params).In base → base.Ns mainGlobals mg → FnOk l.prog w (K w.params) mg base CX0 13 fa fd ["_law_script"] (sp_law (K w.params))) :
    PySem.W.WalkO q loose XP YP l.row.toRowW d [] (fun f vs => PySem.call f vs) :=
  L2.walk_of (n := 63) (k := 13) (x := "_law_script") (CX := fun _ => CX0) (sp := fun w => sp_law (K w.params)) hn (by decide) hdf ⟨rfl, by decide, by decide⟩ hY F (fun _ _ a ns hl _ hS => ⟨a, ns, rfl, hS, hl, fun _ => rfl⟩) fun _ _ _ _ _ z => z
end K51

open PySem PySem.W PyProof.Rows in
set_option maxRecDepth 100000 in
set_option maxHeartbeats 0 in
theorem PySem.Challenge.cw_wheelchorus_k51_whole_least_lots_of_faul_holds : PySem.Challenge.rw_wheelchorus_k51_whole_least_lots_of_faul.Holds := by
  w_on; o_law; k_head; (case hw => w_witness2)
  k_fill
  refine K51.walk (l := PySem.Challenge.rw_wheelchorus_k51_whole_least_lots_of_faul) rfl rfl (fun w h Y => PySem.W.kIn_of Y) ?F
  case F =>
    intro w mg fa h KX G hmg
    refine' K51.all_mk KX G hmg ?axC ?axH ?a_is_whole ?l_is_whole ?c_is_whole ?k_is_whole ?a_is_whole_within ?l_is_whole_within ?c_is_whole_within ?k_is_whole_within ?a_is_number ?l_is_number ?c_is_number ?k_is_number ?a_is_ring_text ?l_is_ring_text ?c_is_ring_text ?k_is_ring_text ?a_zones_of ?l_zones_of ?c_zones_of ?k_zones_of ?a_init ?i_init ?l_init ?c_init ?k_init ?a_all_faults ?i_all_faults ?l_all_faults ?c_all_faults ?k_all_faults ?a_check_fault ?i_check_fault ?l_check_fault ?c_check_fault ?k_check_fault ?a_check_faults ?i_check_faults ?l_check_faults ?c_check_faults ?k_check_faults ?a_zone_of ?i_zone_of ?l_zone_of ?c_zone_of ?k_zone_of ?a_closed_stretches ?i_closed_stretches ?l_closed_stretches ?c_closed_stretches ?k_closed_stretches ?a_passed_from ?i_passed_from ?l_passed_from ?c_passed_from ?k_passed_from ?a_reached ?i_reached ?l_reached ?c_reached ?k_reached ?a_hinit ?i_hinit ?l_hinit ?c_hinit ?k_hinit ?e_hinit ?a_heq ?i_heq ?l_heq ?c_heq ?k_heq ?a_with_rules ?i_with_rules ?l_with_rules ?c_with_rules ?k_with_rules ?e_w0 ?e_w1 ?e_w2 ?e_w3 ?a_is_silent ?i_is_silent ?l_is_silent ?c_is_silent ?k_is_silent ?a_silent_faults ?i_silent_faults ?l_silent_faults ?c_silent_faults ?k_silent_faults ?a_least_lots ?i_least_lots ?l_least_lots ?c_least_lots ?k_least_lots ?a_guarded_ring ?l_guarded_ring ?c_guarded_ring ?k_guarded_ring ?a_open ?l_open ?c_open ?k_open ?a_draw ?l_draw ?c_draw ?k_draw ?a_number ?l_number ?c_number ?k_number ?a_text ?l_text ?c_text ?k_text ?a_faults ?l_faults ?c_faults ?k_faults ?a_zone ?l_zone ?c_zone ?k_zone ?a_open_at ?l_open_at ?c_open_at ?k_open_at ?a_passed ?l_passed ?c_passed ?k_passed ?a_spots ?l_spots ?c_spots ?k_spots ?a_heard ?l_heard ?c_heard ?k_heard ?a_made ?l_made ?c_made ?k_made ?a_order ?l_order ?c_order ?k_order ?a_lots ?l_lots ?c_lots ?k_lots ?a_silent ?l_silent ?c_silent ?k_silent ?a_within ?l_within ?c_within ?k_within ?a_guarded ?l_guarded ?c_guarded ?k_guarded ?a_wwrong ?l_wwrong ?c_wwrong ?k_wwrong ?a_exchanged ?l_exchanged ?c_exchanged ?k_exchanged ?a_kept_out ?l_kept_out ?c_kept_out ?k_kept_out ?a_changed ?l_changed ?c_changed ?k_changed ?a_law ?l_law ?c_law ?k_law ?pgR ?hdR ?poR ?saR ?mkR ?kcR ?nT ?nS ?nZ ?pg ?hd ?po ?sa ?mk ?kc ?nBo ?nRi ?nMa ?nRo ?nNe ?nLa ?nSk ?ica ?icn ?ict ?icm ?kS ?e_aH ?e_xH ?e_bH ?e_sH ?e_gH ?e_hH ?e_nH ?e_iH ?e_tH ?e_lH ?e_cH ?e_kH ?e_eH ?e_tyH ?e_dH ?e_scH ?e_aR ?e_xR ?e_bR ?e_sR ?e_gR ?e_hR ?e_nR ?e_iR ?e_tR ?e_lR ?e_cR ?e_kR ?e_eR ?e_tyR ?e_dR ?e_scR ?e_aF ?e_xF ?e_bF ?e_sF ?e_gF ?e_hF ?e_nF ?e_iF ?e_tF ?e_lF ?e_cF ?e_kF ?e_eF ?e_tyF ?e_dF ?e_scF ?e_w ?kwr ?kvr ?e_icR ?e_haR ?e_hmR ?n_DIGITS ?n_MOST_DIGITS ?n_GREATEST_SUM ?n_MOST_SIGNS ?n_SEEKER ?n_OPENER ?n_CUT ?n_SHORT ?n_LEFT ?n_RIGHT ?n_MOST_ROWS ?z_ValueError ?z_abs ?z_all ?z_bool ?z_enumerate ?z_int ?z_isinstance ?z_len ?z_list ?z_min ?z_range ?z_set ?z_sorted ?z_str ?z_sum ?z_tuple
    (case axC => k_is)
    (case axH => k_is)
    (case a_is_whole => k_is)
    (case l_is_whole => k_is)
    (case c_is_whole => k_is)
    (case k_is_whole => k_is)
    (case a_is_whole_within => k_is)
    (case l_is_whole_within => k_is)
    (case c_is_whole_within => k_is)
    (case k_is_whole_within => k_is)
    (case a_is_number => k_is)
    (case l_is_number => k_is)
    (case c_is_number => k_is)
    (case k_is_number => k_is)
    (case a_is_ring_text => k_is)
    (case l_is_ring_text => k_is)
    (case c_is_ring_text => k_is)
    (case k_is_ring_text => k_is)
    (case a_zones_of => k_is)
    (case l_zones_of => k_is)
    (case c_zones_of => k_is)
    (case k_zones_of => k_is)
    (case a_init => k_is)
    (case i_init => k_is)
    (case l_init => k_is)
    (case c_init => k_is)
    (case k_init => k_is)
    (case a_all_faults => k_is)
    (case i_all_faults => k_is)
    (case l_all_faults => k_is)
    (case c_all_faults => k_is)
    (case k_all_faults => k_is)
    (case a_check_fault => k_is)
    (case i_check_fault => k_is)
    (case l_check_fault => k_is)
    (case c_check_fault => k_is)
    (case k_check_fault => k_is)
    (case a_check_faults => k_is)
    (case i_check_faults => k_is)
    (case l_check_faults => k_is)
    (case c_check_faults => k_is)
    (case k_check_faults => k_is)
    (case a_zone_of => k_is)
    (case i_zone_of => k_is)
    (case l_zone_of => k_is)
    (case c_zone_of => k_is)
    (case k_zone_of => k_is)
    (case a_closed_stretches => k_is)
    (case i_closed_stretches => k_is)
    (case l_closed_stretches => k_is)
    (case c_closed_stretches => k_is)
    (case k_closed_stretches => k_is)
    (case a_passed_from => k_is)
    (case i_passed_from => k_is)
    (case l_passed_from => k_is)
    (case c_passed_from => k_is)
    (case k_passed_from => k_is)
    (case a_reached => k_is)
    (case i_reached => k_is)
    (case l_reached => k_is)
    (case c_reached => k_is)
    (case k_reached => k_is)
    (case a_hinit => k_is)
    (case i_hinit => k_is)
    (case l_hinit => k_is)
    (case c_hinit => k_is)
    (case k_hinit => k_is)
    (case e_hinit => k_is)
    (case a_heq => k_is)
    (case i_heq => k_is)
    (case l_heq => k_is)
    (case c_heq => k_is)
    (case k_heq => k_is)
    (case a_with_rules => k_is)
    (case i_with_rules => k_is)
    (case l_with_rules => k_is)
    (case c_with_rules => k_is)
    (case k_with_rules => k_is)
    (case e_w0 => k_is)
    (case e_w1 => k_is)
    (case e_w2 => k_is)
    (case e_w3 => k_is)
    (case a_is_silent => k_is)
    (case i_is_silent => k_is)
    (case l_is_silent => k_is)
    (case c_is_silent => k_is)
    (case k_is_silent => k_is)
    (case a_silent_faults => k_is)
    (case i_silent_faults => k_is)
    (case l_silent_faults => k_is)
    (case c_silent_faults => k_is)
    (case k_silent_faults => k_is)
    (case a_least_lots => k_is)
    (case i_least_lots => k_is)
    (case l_least_lots => k_is)
    (case c_least_lots => k_is)
    (case k_least_lots => k_is)
    (case a_guarded_ring => k_is)
    (case l_guarded_ring => k_is)
    (case c_guarded_ring => k_is)
    (case k_guarded_ring => k_is)
    (case a_open => k_is)
    (case l_open => k_is)
    (case c_open => k_is)
    (case k_open => k_is)
    (case a_draw => k_is)
    (case l_draw => k_is)
    (case c_draw => k_is)
    (case k_draw => k_is)
    (case a_number => k_is)
    (case l_number => k_is)
    (case c_number => k_is)
    (case k_number => k_is)
    (case a_text => k_is)
    (case l_text => k_is)
    (case c_text => k_is)
    (case k_text => k_is)
    (case a_faults => k_is)
    (case l_faults => k_is)
    (case c_faults => k_is)
    (case k_faults => k_is)
    (case a_zone => k_is)
    (case l_zone => k_is)
    (case c_zone => k_is)
    (case k_zone => k_is)
    (case a_open_at => k_is)
    (case l_open_at => k_is)
    (case c_open_at => k_is)
    (case k_open_at => k_is)
    (case a_passed => k_is)
    (case l_passed => k_is)
    (case c_passed => k_is)
    (case k_passed => k_is)
    (case a_spots => k_is)
    (case l_spots => k_is)
    (case c_spots => k_is)
    (case k_spots => k_is)
    (case a_heard => k_is)
    (case l_heard => k_is)
    (case c_heard => k_is)
    (case k_heard => k_is)
    (case a_made => k_is)
    (case l_made => k_is)
    (case c_made => k_is)
    (case k_made => k_is)
    (case a_order => k_is)
    (case l_order => k_is)
    (case c_order => k_is)
    (case k_order => k_is)
    (case a_lots => k_is)
    (case l_lots => k_is)
    (case c_lots => k_is)
    (case k_lots => k_is)
    (case a_silent => k_is)
    (case l_silent => k_is)
    (case c_silent => k_is)
    (case k_silent => k_is)
    (case a_within => k_is)
    (case l_within => k_is)
    (case c_within => k_is)
    (case k_within => k_is)
    (case a_guarded => k_is)
    (case l_guarded => k_is)
    (case c_guarded => k_is)
    (case k_guarded => k_is)
    (case a_wwrong => k_is)
    (case l_wwrong => k_is)
    (case c_wwrong => k_is)
    (case k_wwrong => k_is)
    (case a_exchanged => k_is)
    (case l_exchanged => k_is)
    (case c_exchanged => k_is)
    (case k_exchanged => k_is)
    (case a_kept_out => k_is)
    (case l_kept_out => k_is)
    (case c_kept_out => k_is)
    (case k_kept_out => k_is)
    (case a_changed => k_is)
    (case l_changed => k_is)
    (case c_changed => k_is)
    (case k_changed => k_is)
    (case a_law => k_is)
    (case l_law => k_is)
    (case c_law => k_is)
    (case k_law => k_is)
    (case pgR => k_is)
    (case hdR => k_is)
    (case poR => k_is)
    (case saR => k_is)
    (case mkR => k_is)
    (case kcR => k_is)
    (case nT => k_is)
    (case nS => k_is)
    (case nZ => k_is)
    (case pg => k_is)
    (case hd => k_is)
    (case po => k_is)
    (case sa => k_is)
    (case mk => k_is)
    (case kc => k_is)
    (case nBo => k_is)
    (case nRi => k_is)
    (case nMa => k_is)
    (case nRo => k_is)
    (case nNe => k_is)
    (case nLa => k_is)
    (case nSk => k_is)
    (case ica => k_is)
    (case icn => k_is)
    (case ict => k_is)
    (case icm => k_is)
    (case kS => first | k_is | kit_is | (decide +kernel))
    (case e_aH => k_is)
    (case e_xH => k_is)
    (case e_bH => decide +kernel)
    (case e_sH => k_is)
    (case e_gH => k_is)
    (case e_hH => k_is)
    (case e_nH => k_is)
    (case e_iH => k_is)
    (case e_tH => k_is)
    (case e_lH => k_is)
    (case e_cH => k_is)
    (case e_kH => k_is)
    (case e_eH => k_is)
    (case e_tyH => k_is)
    (case e_dH => k_is)
    (case e_scH => first | rfl | k_is)
    (case e_aR => k_is)
    (case e_xR => k_is)
    (case e_bR => decide +kernel)
    (case e_sR => k_is)
    (case e_gR => k_is)
    (case e_hR => k_is)
    (case e_nR => k_is)
    (case e_iR => k_is)
    (case e_tR => k_is)
    (case e_lR => k_is)
    (case e_cR => k_is)
    (case e_kR => k_is)
    (case e_eR => k_is)
    (case e_tyR => k_is)
    (case e_dR => k_is)
    (case e_scR => first | rfl | k_is)
    (case e_aF => k_is)
    (case e_xF => k_is)
    (case e_bF => decide +kernel)
    (case e_sF => k_is)
    (case e_gF => k_is)
    (case e_hF => k_is)
    (case e_nF => k_is)
    (case e_iF => k_is)
    (case e_tF => k_is)
    (case e_lF => k_is)
    (case e_cF => k_is)
    (case e_kF => k_is)
    (case e_eF => k_is)
    (case e_tyF => k_is)
    (case e_dF => k_is)
    (case e_scF => first | rfl | k_is)
    (case e_w => k_is)
    (case kwr => first | k_is | kit_is | (decide +kernel))
    (case kvr => first | k_is | kit_is | (decide +kernel))
    (case e_icR => k_is)
    (case e_haR => k_is)
    (case e_hmR => k_is)
    (case n_DIGITS => k_is)
    (case n_MOST_DIGITS => k_is)
    (case n_GREATEST_SUM => k_is)
    (case n_MOST_SIGNS => k_is)
    (case n_SEEKER => k_is)
    (case n_OPENER => k_is)
    (case n_CUT => k_is)
    (case n_SHORT => k_is)
    (case n_LEFT => k_is)
    (case n_RIGHT => k_is)
    (case n_MOST_ROWS => k_is)
    (case z_ValueError => k_is)
    (case z_abs => k_is)
    (case z_all => k_is)
    (case z_bool => k_is)
    (case z_enumerate => k_is)
    (case z_int => k_is)
    (case z_isinstance => k_is)
    (case z_len => k_is)
    (case z_list => k_is)
    (case z_min => k_is)
    (case z_range => k_is)
    (case z_set => k_is)
    (case z_sorted => k_is)
    (case z_str => k_is)
    (case z_sum => k_is)
    (case z_tuple => k_is)
