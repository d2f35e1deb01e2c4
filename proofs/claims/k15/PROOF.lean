import PyProof.Rows.All
import Wide.All
import OpenK.AllK
import Wide.FinOn
import HandS.ForMost
import HandS.SlotsOwn
import HandS.Wide
import HandS.IsInst
import HandS.Style
import HandS.Zip
import HandS.Walk
import HandS.Exc
import HandS.TryOnly
import HandS.ExcOwn
import HandS.WordsExc
import HandS.ExcIs
import KE.OsGo
import HandS.Codes
import HandS.Text
import KE.IntTextLaws
import KE.KExcIs
import KE.DataEq
import KE.KTupSum
import HandS.Defaults
import HandS.MakeKw
import HandS.MakeKwOnly
import HandS.ClsMeth
import HandS.Strs
import KE.GoesMore
import HandS.TupAny
import HandS.TupMul
import HandS.TryMany
import HandS.ExcCtx
import HandS.TupSets
import HandS.SetFor
import HandS.OwnIter
import HandS.IterVal
import PyProof.InstNe
import PyProof.Rows.SortShellAny
import HandS.SortInts
import KE.KOpsOwn
import HandS.GenList
import PyProof.P3In
import HandS.Dict
import HandS.More
import PyProof.ReprRoads
import HandS.Conv
import PyProof.EqAt
import PyProof.EqKinds
import PyProof.NeKinds
import HandS.GenOver
import HandS.GenCall
import HandS.GenYield
import PyProof.ListStr
import HandS.Property
import HandS.TupLe
import HandS.DictComp
import PySem.Challenge.RW_wheelchorus_k15_whole_single_lays_and_cl
import HandS.FStr
set_option Elab.async false
set_option linter.all false
set_option maxRecDepth 100000
set_option maxHeartbeats 4000000
/-! Numbers as lists of digits, their rows, and where two rows part. -/
namespace Wm
open PySem L2
def codes (ds : List Nat) : List Nat := ds.map (· + 48)
def numS (ds : List Nat) : Str := ⟨(codes ds).toArray⟩
structure Dig (ds : List Nat) : Prop where
  dig : ∀ d ∈ ds, 1 ≤ d ∧ d ≤ 9
structure Num (ds : List Nat) : Prop where
  pos : 1 ≤ ds.length
  len : ds.length ≤ 4
  dig : ∀ d ∈ ds, 1 ≤ d ∧ d ≤ 9
  sum : ds.sum ≤ 24
def blk (d : Nat) : List Int := (List.replicate d [1, 0]).flatten
def rowL : List Nat → List Int
  | [] => [0, 0]
  | d :: ds => blk d ++ ([0, 0] ++ rowL ds)
structure Diff (xs ys : List Int) (k : Nat) (a b : Int) : Prop where
  one : xs[k]? = some a
  two : ys[k]? = some b
  ne : a ≠ b
  eq : ∀ j, j < k → xs[j]? = ys[j]?
theorem Diff.symm {xs ys : List Int} {k : Nat} {a b : Int} (h : Diff xs ys k a b) : Diff ys xs k b a :=
  ⟨h.two, h.one, h.ne.symm, fun j l => (h.eq j l).symm⟩
theorem Diff.cons {xs ys : List Int} {k : Nat} {a b : Int} (z : Int) (h : Diff xs ys k a b) : Diff (z :: xs) (z :: ys) (k + 1) a b := by
  refine ⟨by simpa using h.one, by simpa using h.two, h.ne, fun j l => ?_⟩
  cases j with
  | zero => rfl
  | succ j => simpa using h.eq j (by omega)
theorem Diff.app {xs ys : List Int} {k : Nat} {a b : Int} : ∀ (p : List Int), Diff xs ys k a b → Diff (p ++ xs) (p ++ ys) (p.length + k) a b
  | [], h => by simpa using h
  | z :: p, h => by
    have ih := (Diff.app p h).cons z
    have e : (z :: p).length + k = p.length + k + 1 := by simp only [List.length_cons]; omega
    rw [e]
    exact ih
theorem Diff.uniq {xs ys : List Int} {k l : Nat} {a b c d : Int} (h : Diff xs ys k a b) (g : Diff xs ys l c d) : k = l ∧ a = c ∧ b = d := by
  have e : k = l := by
    rcases Nat.lt_trichotomy k l with x | x | x
    · exact absurd (by have q := g.eq k x; rw [h.one, h.two] at q; exact Option.some.inj q) h.ne
    · exact x
    · exact absurd (by have q := h.eq l x; rw [g.one, g.two] at q; exact Option.some.inj q) g.ne
  subst e
  exact ⟨rfl, Option.some.inj (h.one.symm.trans g.one), Option.some.inj (h.two.symm.trans g.two)⟩
theorem Diff.lt1 {xs ys : List Int} {k : Nat} {a b : Int} (h : Diff xs ys k a b) : k < xs.length := (List.getElem?_eq_some_iff.mp h.one).1
theorem Diff.lt2 {xs ys : List Int} {k : Nat} {a b : Int} (h : Diff xs ys k a b) : k < ys.length := (List.getElem?_eq_some_iff.mp h.two).1
theorem blk_add (d e : Nat) : blk (d + e) = blk d ++ blk e := by
  unfold blk
  rw [← List.replicate_append_replicate, List.flatten_append]
theorem blk_succ (e : Nat) : blk (e + 1) = [1, 0] ++ blk e := by
  rw [Nat.add_comm, blk_add]
  rfl
theorem blk_len (d : Nat) : (blk d).length = 2 * d := by
  induction d with
  | zero => rfl
  | succ d ih => rw [blk_succ, List.length_append, ih]; simp only [List.length_cons, List.length_nil]; omega
theorem row_less (d e : Nat) (ds es : List Nat) (h : d < e) : Diff (rowL (d :: ds)) (rowL (e :: es)) (2 * d) 0 1 := by
  obtain ⟨f, rfl⟩ : ∃ f, e = d + (f + 1) := ⟨e - d - 1, by omega⟩
  have h0 : Diff ([0, 0] ++ rowL ds) ([1, 0] ++ (blk f ++ ([0, 0] ++ rowL es))) 0 0 1 := ⟨rfl, rfl, by decide, fun j l => absurd l (Nat.not_lt_zero _)⟩
  have h1 := h0.app (blk d)
  rw [blk_len, Nat.add_zero] at h1
  have e1 : rowL ((d + (f + 1)) :: es) = blk d ++ ([1, 0] ++ (blk f ++ ([0, 0] ++ rowL es))) := by
    show blk (d + (f + 1)) ++ _ = _
    rw [blk_add, blk_succ, List.append_assoc, List.append_assoc]
  rw [e1]
  exact h1
theorem rows_part : ∀ (ds es : List Nat), (∀ d ∈ ds, 1 ≤ d) → (∀ e ∈ es, 1 ≤ e) →
    ds = es ∨ (∃ k, Diff (rowL ds) (rowL es) k 1 0 ∧ es < ds) ∨ (∃ k, Diff (rowL ds) (rowL es) k 0 1 ∧ ds < es)
  | [], [], _, _ => .inl rfl
  | [], e :: es, _, h => by
    obtain ⟨f, rfl⟩ : ∃ f, e = f + 1 := ⟨e - 1, by have := h e (by simp); omega⟩
    refine .inr (.inr ⟨0, ⟨rfl, ?_, by decide, fun j l => absurd l (Nat.not_lt_zero _)⟩, List.nil_lt_cons _ _⟩)
    show (blk (f + 1) ++ _)[0]? = _
    rw [blk_succ]
    rfl
  | d :: ds, [], h, _ => by
    obtain ⟨f, rfl⟩ : ∃ f, d = f + 1 := ⟨d - 1, by have := h d (by simp); omega⟩
    refine .inr (.inl ⟨0, ⟨?_, rfl, by decide, fun j l => absurd l (Nat.not_lt_zero _)⟩, List.nil_lt_cons _ _⟩)
    show (blk (f + 1) ++ _)[0]? = _
    rw [blk_succ]
    rfl
  | d :: ds, e :: es, h, g => by
    rcases Nat.lt_trichotomy d e with x | x | x
    · exact .inr (.inr ⟨_, row_less d e ds es x, List.cons_lt_cons_iff.mpr (.inl x)⟩)
    · subst x
      rcases rows_part ds es (fun y m => h y (List.mem_cons_of_mem _ m)) (fun y m => g y (List.mem_cons_of_mem _ m)) with q | ⟨k, q, l⟩ | ⟨k, q, l⟩
      · exact .inl (by rw [q])
      · exact .inr (.inl ⟨_, (q.app [0, 0]).app (blk d), List.cons_lt_cons_iff.mpr (.inr ⟨rfl, l⟩)⟩)
      · exact .inr (.inr ⟨_, (q.app [0, 0]).app (blk d), List.cons_lt_cons_iff.mpr (.inr ⟨rfl, l⟩)⟩)
    · exact .inr (.inl ⟨_, (row_less e d es ds x).symm, List.cons_lt_cons_iff.mpr (.inl x)⟩)
theorem codes_lt : ∀ (ds es : List Nat), ds < es → codes ds < codes es
  | [], [], h => absurd h (List.lt_irrefl _)
  | [], _ :: _, _ => List.nil_lt_cons _ _
  | _ :: _, [], h => absurd h (List.not_lt_nil _)
  | d :: ds, e :: es, h => by
    rcases List.cons_lt_cons_iff.mp h with x | ⟨x, y⟩
    · exact List.cons_lt_cons_iff.mpr (.inl (Nat.add_lt_add_right x 48))
    · exact List.cons_lt_cons_iff.mpr (.inr ⟨by rw [x], codes_lt ds es y⟩)
theorem codes_inj : ∀ (ds es : List Nat), codes ds = codes es → ds = es
  | [], [], _ => rfl
  | [], _ :: _, h => by simp [codes] at h
  | _ :: _, [], h => by simp [codes] at h
  | d :: ds, e :: es, h => by
    have h1 : d + 48 = e + 48 := (List.cons.inj h).1
    have h2 : codes ds = codes es := (List.cons.inj h).2
    rw [codes_inj ds es h2, show d = e by omega]
theorem numS_cps (ds : List Nat) : (numS ds).cps.toList = codes ds := rfl
theorem numS_inj {ds es : List Nat} (h : numS ds = numS es) : ds = es := codes_inj _ _ (by rw [← numS_cps, h, numS_cps])
theorem numS_len (ds : List Nat) : (numS ds).length = ds.length := by
  show (codes ds).toArray.size = _
  simp [codes]
theorem lt_asymm' {a b : List Nat} (h : a < b) : ¬ b < a := fun g => List.lt_irrefl _ (List.lt_trans h g)
theorem rowL_le : ∀ ds : List Nat, (∀ d ∈ ds, d ≤ 9) → (rowL ds).length ≤ 20 * ds.length + 2
  | [], _ => by decide
  | d :: ds, h => by
    have ih := rowL_le ds fun y m => h y (List.mem_cons_of_mem _ m)
    have hd := h d (by simp)
    show (blk d ++ ([0, 0] ++ rowL ds)).length ≤ _
    rw [List.length_append, List.length_append, blk_len]
    simp only [List.length_cons, List.length_nil]
    omega
end Wm

/-! Digits as signs, texts of digits cut and joined; what a heap keeps. -/
namespace Wm
open PySem L2
theorem dig_cases {d : Nat} (h : 1 ≤ d ∧ d ≤ 9) : d = 1 ∨ d = 2 ∨ d = 3 ∨ d = 4 ∨ d = 5 ∨ d = 6 ∨ d = 7 ∨ d = 8 ∨ d = 9 := by omega
theorem dig_int {d : Nat} (h : 1 ≤ d ∧ d ≤ 9) : PySem.intText? ⟨#[d + 48]⟩ = some (d : Int) := by
  rcases dig_cases h with e | e | e | e | e | e | e | e | e <;> subst e <;> decide +kernel
theorem dig_in {d : Nat} (h : 1 ≤ d ∧ d ≤ 9) : (d + 48) ∈ ("123456789" : Str).cps.toList := by
  rcases dig_cases h with e | e | e | e | e | e | e | e | e <;> subst e <;> decide +kernel
theorem dig_str {d : Nat} (h : 1 ≤ d ∧ d ≤ 9) : ((toString (d : Int) : String) : Str) = numS [d] := by
  rcases dig_cases h with e | e | e | e | e | e | e | e | e <;> subst e <;> decide +kernel
theorem numS_app (ds es : List Nat) : numS ds ++ numS es = numS (ds ++ es) := by
  refine PyProof.Rows.ext_toList ?_
  show ((numS ds).cps ++ (numS es).cps).toList = _
  rw [Array.toList_append, numS_cps, numS_cps, numS_cps]
  simp [codes]
theorem numS_nil : numS [] = ("" : Str) := by decide +kernel
theorem numS_take (ds : List Nat) (k : Nat) : cutS (numS ds) none (some (k : Int)) = numS (ds.take k) := by
  refine PyProof.Rows.ext_toList ?_
  show ((codes ds).drop 0).take (HT.sIx (numS ds).length (numS ds).length (some (k : Int)) - 0) = codes (ds.take k)
  rw [numS_len, HT.sIx_nat, List.drop_zero, Nat.sub_zero]
  simp only [codes, ← List.map_take]
  congr 1
  rw [List.take_eq_take_iff]
  omega
theorem numS_last (ds : List Nat) : cutS (numS ds) none (some (-1)) = numS ds.dropLast := by
  refine PyProof.Rows.ext_toList ?_
  show ((codes ds).drop 0).take (HT.sIx (numS ds).length (numS ds).length (some (-1)) - 0) = codes ds.dropLast
  rw [numS_len, List.drop_zero, Nat.sub_zero, List.dropLast_eq_take]
  simp only [codes, ← List.map_take]
  have e : HT.sIx ds.length ds.length (some (-1)) = ds.length - 1 := by
    unfold HT.sIx
    simp only [show (-1 : Int) < 0 by decide, if_true]
    omega
  rw [e]
theorem numS_at (ds : List Nat) (i : Nat) (hi : i < ds.length) : (numS ds).cps[i]? = some (ds[i] + 48) := by
  show ((codes ds).toArray)[i]? = _
  simp [codes, hi]
theorem numS_size (ds : List Nat) : (numS ds).cps.size = ds.length := numS_len ds

/-! heaps -/
theorem same_new {H : Hp} {p : Addr} {o : HO} (n : H p = none) : Same H (upd H p o) := fun b u e => by
  rw [upd_ne (ne_of_none e n)]
  exact e
theorem at_old {H : Hp} {p q : Addr} {o u : HO} (h : H p = some o) (n : H q = none) : upd H q u p = some o := by
  rw [upd_ne (ne_of_none h n)]
  exact h
theorem sameT {K : PySem.W.Frag} {H H' : Hp} {a : Addr} {xs : List V} (e : Same H H') (h : SqT K H a xs) : SqT K H' a xs := by
  rcases h with (h | ⟨o, h⟩) | h
  · exact .inl (.inl (e _ _ h))
  · exact .inl (.inr ⟨o, e _ _ h⟩)
  · exact .inr h
/-- what stood stands, but for what H did not know and the object at p, which is new since -/
theorem same_mut {H H' : Hp} {p : Addr} {o : HO} (s : Same H H') (n : H p = none) : Same H (upd H' p o) := fun b u e => by
  rw [upd_ne (ne_of_none e n)]
  exact s b u e
/-- the bag's list at b, its cells at c -/
def Cel (H : Hp) (b c : Addr) : Prop := ∃ x k m z : Int, H b = some (.lst [.int x, .ref c, .int k, .int m, .int z])
structure But (b : Addr) (H H' : Hp) : Prop where
  keep : ∀ p o, p ≠ b → H p = some o → H' p = some o
  cel : ∀ c, Cel H b c → Cel H' b c
instance {b : Addr} {H H' : Hp} : CoeFun (But b H H') (fun _ => ∀ p o, p ≠ b → H p = some o → H' p = some o) := ⟨But.keep⟩
theorem But.refl (b : Addr) (H : Hp) : But b H H := ⟨fun _ _ _ h => h, fun _ h => h⟩
theorem But.trans {b : Addr} {H H1 H2 : Hp} (x : But b H H1) (y : But b H1 H2) : But b H H2 := ⟨fun p o n h => y.keep p o n (x.keep p o n h), fun c h => y.cel c (x.cel c h)⟩
theorem But.of {b : Addr} {H H' : Hp} (s : Same H H') : But b H H' := ⟨fun p o _ h => s p o h, fun _ ⟨x, k, m, z, h⟩ => ⟨x, k, m, z, s _ _ h⟩⟩
theorem But.set {b c : Addr} {H : Hp} {x k m z x' k' m' z' : Int} (hb : H b = some (.lst [.int x, .ref c, .int k, .int m, .int z])) : But b H (upd H b (.lst [.int x', .ref c, .int k', .int m', .int z'])) :=
  ⟨fun p u n h => by
    rw [upd_ne n]
    exact h, fun c2 ⟨a1, a2, a3, a4, h⟩ => by
    rw [hb] at h
    have h := Option.some.inj h
    injection h with h
    injection h with h1 h
    injection h with h2 h
    injection h2 with h2
    subst h2
    exact ⟨x', k', m', z', upd_same⟩⟩
/-- the bag of draws: its cells' list and its four numbers -/
def Bag (H : Hp) (b : Addr) (n : Nat) : Prop :=
  ∃ (c : Addr) (x k m z : Int) (ns : List Int), H b = some (.lst [.int x, .ref c, .int k, .int m, .int z]) ∧ H c = some (.lst (ns.map V.int)) ∧ 0 ≤ k ∧ 0 ≤ m ∧ m ≤ (n : Int)
theorem bag_ne {H : Hp} {b c : Addr} {x k m z : Int} {ns : List Int} (hb : H b = some (.lst [.int x, .ref c, .int k, .int m, .int z])) (hc : H c = some (.lst (ns.map V.int))) : c ≠ b := by
  intro e
  subst e
  rw [hb] at hc
  have q := Option.some.inj hc
  have q2 : ([.int x, .ref c, .int k, .int m, .int z] : List V) = ns.map V.int := by injection q
  cases ns with
  | nil => simp at q2
  | cons u r => cases r with
    | nil => simp at q2
    | cons v r => simp at q2
theorem Bag.mono {H : Hp} {b : Addr} {n m : Nat} (h : Bag H b n) (l : n ≤ m) : Bag H b m := by
  obtain ⟨c, x, k, q, z, ns, h1, h2, h3, h4, h5⟩ := h
  exact ⟨c, x, k, q, z, ns, h1, h2, h3, h4, by omega⟩
theorem Bag.keep {H H' : Hp} {b : Addr} {n : Nat} (h : Bag H b n) (s : Same H H') : Bag H' b n := by
  obtain ⟨c, x, k, q, z, ns, h1, h2, h3, h4, h5⟩ := h
  exact ⟨c, x, k, q, z, ns, s _ _ h1, s _ _ h2, h3, h4, h5⟩
theorem Cel.uniq {H : Hp} {b c d : Addr} (h : Cel H b c) (g : Cel H b d) : c = d := by
  obtain ⟨x, k, m, z, h⟩ := h
  obtain ⟨x', k', m', z', g⟩ := g
  rw [h] at g
  have g := Option.some.inj g
  injection g with g
  injection g with g1 g
  injection g with g2 g
  injection g2
theorem But.put {b D : Addr} {H H' : Hp} {o : HO} (e : But b H H') (n : H D = none) : But b H (upd H' D o) := by
  refine ⟨fun p u pb h => ?_, fun c h => ?_⟩
  · rw [upd_ne (ne_of_none h n)]
    exact e.keep p u pb h
  · have h0 := h
    obtain ⟨x, k, m, z, h⟩ := h
    obtain ⟨x', k', m', z', g⟩ := e.cel c h0
    exact ⟨x', k', m', z', by rw [upd_ne (ne_of_none h n)]; exact g⟩
theorem Bag.put {b D : Addr} {H H' : Hp} {o : HO} {n m : Nat} (bag : Bag H b n) (f : H D = none) (e : But b H H') (bag2 : Bag H' b m) : Bag (upd H' D o) b m := by
  obtain ⟨c, x, k, q, z, ns, h1, h2, h3, h4, h5⟩ := bag
  obtain ⟨c', x', k', q', z', ns', g1, g2, g3, g4, g5⟩ := bag2
  have ec : c = c' := Cel.uniq (e.cel c ⟨x, k, q, z, h1⟩) ⟨x', k', q', z', g1⟩
  subst ec
  exact ⟨c, x', k', q', z', ns', by rw [upd_ne (ne_of_none h1 f)]; exact g1, by rw [upd_ne (ne_of_none h2 f)]; exact g2, g3, g4, g5⟩
end Wm
namespace Wm
open PySem L2
theorem yesT {σ : L2.St} {H : Hp} {A B : Hp → Prop} (h : A H) : tYes σ H (fun b H3 => if b = true then A H3 else B H3) := by
  show (if true = true then A H else B H)
  rw [if_pos rfl]
  exact h
end Wm

/-! row[::2] of a list or a tuple; a loop over a list or a tuple. -/
namespace Hf
open PySem PySem.Spec PyProof.Rows L2
def ev2 {α : Type} : List α → List α
  | [] => []
  | [x] => [x]
  | x :: _ :: r => x :: ev2 r
theorem ev2_le {α : Type} : ∀ xs : List α, (ev2 xs).length ≤ xs.length
  | [] => Nat.le_refl _
  | [_] => Nat.le_refl _
  | x :: y :: r => by
    have ih := ev2_le r
    show (ev2 r).length + 1 ≤ r.length + 2
    omega
theorem ev2_mem {α : Type} {z : α} : ∀ {xs : List α}, z ∈ ev2 xs → z ∈ xs
  | [], h => h
  | [_], h => h
  | x :: y :: r, h => by
    rcases List.mem_cons.mp h with e | e
    · rw [e]; simp
    · exact List.mem_cons_of_mem _ (List.mem_cons_of_mem _ (ev2_mem e))
theorem ev2_map {α β : Type} (f : α → β) : ∀ xs : List α, ev2 (xs.map f) = (ev2 xs).map f
  | [] => rfl
  | [_] => rfl
  | x :: y :: r => by
    show f x :: ev2 (r.map f) = f x :: (ev2 r).map f
    rw [ev2_map f r]
theorem ev2_pick {α : Type} : ∀ xs : List α, (List.range ((xs.length + 1) / 2)).filterMap (fun k => xs[2 * k]?) = ev2 xs
  | [] => by simp [ev2]
  | [x] => by
    rw [show ([x].length + 1) / 2 = 1 by simp, show List.range 1 = [0] by decide]
    simp [ev2]
  | x :: y :: r => by
    have ih := ev2_pick r
    have e : ((x :: y :: r).length + 1) / 2 = (r.length + 1) / 2 + 1 := by
      show (r.length + 1 + 1 + 1) / 2 = _
      omega
    rw [e, List.range_succ_eq_map, List.filterMap_cons]
    show x :: _ = x :: ev2 r
    rw [List.filterMap_map, ← ih]
    rfl
theorem ev2_vals : ∀ {xs : List V} {us : List Value}, Vals xs us → Vals (ev2 xs) (ev2 us)
  | [], _, h => by cases h; exact .nil
  | [x], _, h => by
    cases h with
    | cons a b =>
      cases b
      exact .cons a .nil
  | x :: y :: r, _, h => by
    cases h with
    | cons a b =>
      cases b with
      | cons c d => exact .cons a (ev2_vals d)
theorem pick2 (items : Array Value) : slicePick items none none (some 2) = (ev2 items.toList).toArray := by
  have e := ev2_pick items.toList
  unfold slicePick
  have b : sliceBounds none none (some 2) items.size = (0, (items.size : Int), 2) := by
    first
    | rfl
    | simp [sliceBounds]
  rw [b]
  show ((sliceRange 0 (items.size : Int) 2).filterMap (items[·]?)).toArray = _
  have r : sliceRange 0 (items.size : Int) 2 = (List.range ((items.size + 1) / 2)).map fun k => 2 * k := by
    unfold sliceRange
    have h1 : (2 : Int) > 0 := by decide
    by_cases h : (0 : Int) < (items.size : Int)
    · have e : ((items.size : Int) - 0 + 2 - 1) / 2 = (((items.size + 1) / 2 : Nat) : Int) := by omega
      simp only [h1, if_true, h, e, Int.toNat_natCast]
      apply List.map_congr_left
      intro k _
      omega
    · have e : items.size = 0 := by omega
      simp [e]
  rw [r, List.filterMap_map]
  rw [Array.length_toList] at e
  rw [← e]
  refine congrArg List.toArray (congrArg (fun f => List.filterMap f _) (funext fun k => ?_))
  show items[2 * k]? = _
  rw [Array.getElem?_toList]
section
variable {prog : Program} {w : World} {A : Around} {E : Value → Shared → Prop} {s : Shared}
theorem places2 (n : Nat) : Builtin.Slice.slicePlaces 0 (n : Int) 2 = (n + 1) / 2 := by
  unfold Builtin.Slice.slicePlaces
  have h1 : (2 : Int) > 0 := by omega
  simp only [h1, if_true]
  split <;> omega
theorem adjust2 (n : Nat) : Builtin.Slice.sliceAdjust none none 2 (n : Int) = (0, (n : Int)) := by
  have h1 : ¬ ((2 : Int) < 0) := by omega
  unfold Builtin.Slice.sliceAdjust
  simp only [h1, if_false]
theorem sliceApplied2 {sl : Addr} {t : Tok} {n : Nat} {Q : Int × Int × Nat → Shared → Prop} (hs : s.heap.IsSliceOf sl .none .none (.int 2 t))
    (h : Q (0, 2, (n + 1) / 2) s) : wpAny (model prog w) A (Builtin.Slice.sliceApplied (.ref sl) (pure (n : Int))) Q E s := by
  obtain ⟨os, hos, hcs, hds⟩ := id hs
  unfold Builtin.Slice.sliceApplied Builtin.Slice.sliceFields
  refine wpAny_bind (wpAny_bind (wpAny_field hos hds (x := .none) rfl (wpAny_bind (wpAny_field hos hds (x := .none) rfl (wpAny_bind (wpAny_field hos hds (x := .int 2 t) rfl (wpAny_pure ?_)))))))
  refine wpAny_bind (slicePart_int ?_)
  show wpAny _ _ (if ((2 : Int) == 0) = true then _ else _) _ _ s
  rw [if_neg (by decide)]
  refine wpAny_bind (HT.slicePart_ .none (wpAny_bind (HT.slicePart_ .none (wpAny_bind (wpAny_pure ?_)))))
  show wpAny _ _ (match Builtin.Slice.sliceAdjust none none 2 (n : Int) with | (lo, hi) => pure (lo, (2 : Int), Builtin.Slice.slicePlaces lo hi 2)) _ _ s
  rw [adjust2 n]
  show wpAny _ _ (pure ((0 : Int), (2 : Int), Builtin.Slice.slicePlaces (0 : Int) (n : Int) 2)) _ _ s
  rw [places2]
  exact wpAny_pure h
theorem pick2t (xs : Array Value) : ((List.range ((xs.size + 1) / 2)).filterMap fun (m : Nat) => xs[((0 : Int) + (m : Int) * 2).toNat]?).toArray = (ev2 xs.toList).toArray := by
  have e : (fun (m : Nat) => xs[((0 : Int) + (m : Int) * 2).toNat]?) = fun m => xs.toList[2 * m]? := by
    funext m
    have : ((0 : Int) + (m : Int) * 2).toNat = 2 * m := by omega
    rw [this, Array.getElem?_toList]
  rw [e, ← ev2_pick xs.toList, Array.length_toList]
theorem getItem_tuple_2 {t sl : Addr} {tk : Tok} {items : Array Value} {Q : Value → Shared → Prop} (ht : IsTup s.heap t items) (hs : s.heap.IsSliceOf sl .none .none (.int 2 tk))
    (h : Q (.ref s.heap.objs.size) { s with heap := s.heap.push { cls := .type "tuple", data := .seq (ev2 items.toList).toArray } })
    (hsz : items.size ≤ sizeLine) : wpAny (model prog w) A (getItem (.ref t) (.ref sl)) Q E s := by
  have htake : sizeOk (.seq (ev2 items.toList).toArray) := by
    show (ev2 items.toList).toArray.size ≤ sizeLine
    rw [List.size_toArray]
    exact Nat.le_trans (ev2_le items.toList) (by rw [Array.length_toList]; exact hsz)
  obtain ⟨os, hos, hcs, hds⟩ := id hs
  have hTs : s.TypeIs (.ref sl) "slice" := ⟨os, hos, hcs⟩
  unfold getItem
  try with_reducible refine wpAny_holding ?_
  first | refine wpAny_bind (wpAny_pure ?_) | skip
  refine wpAny_bind (wpAny_sequenceKey ht.typeIs (by decide) ?_)
  refine wpAny_bind (wpAny_callSpecial?_slot (name := Str.ofString "__getitem__") ht.typeIs PyProof.Rows.slot_tuple_getitem
    (wpAny_call_entry PyProof.Rows.slot_tuple_getitem ht.typeIs entry_tuple_getitem ?_ (args_tuple_getitem _ _)))
  show wpAny _ _ (Builtin.Tuple.tupleItemsOf (.ref t) >>= _) _ _ s
  refine wpAny_bind (tupleItemsOf_ ht ?_)
  refine wpAny_bind (wpAny_typeOf hTs ?_)
  rw [if_pos (by decide)]
  refine wpAny_bind (sliceApplied2 hs ?_)
  have hno : ¬ (((0 : Int) == 0 && (2 : Int) == 1 && ((items.size + 1) / 2) == items.size) = true) := by
    intro q
    rw [Bool.and_eq_true, Bool.and_eq_true] at q
    exact absurd q.1.2 (by decide)
  show wpAny _ _ (if ((0 : Int) == 0 && (2 : Int) == 1 && ((items.size + 1) / 2) == items.size) = true then _ else _) _ _ s
  rw [if_neg hno, pick2t]
  first
    | exact wpAny_bind (m := Builtin.Tuple.tupleExact _) (wpAny_newObj_type (wpAny_pure ⟨_, rfl, wpAny_pure h⟩) htake)
    | exact wpAny_bind (m := Builtin.Tuple.tupleExact _) (wpAny_newObj_type (wpAny_bind (wpAny_pure (wpAny_pure ⟨_, rfl, wpAny_pure h⟩))) htake)
    | exact wpAny_bind (wpAny_bind (m := Builtin.Tuple.tupleExact _) (wpAny_newObj_type (wpAny_pure (wpAny_pure ⟨_, rfl, wpAny_pure h⟩)) htake))
    | exact wpAny_bind (wpAny_bind (m := Builtin.Tuple.tupleExact _) (wpAny_newObj_type (wpAny_pure ⟨_, rfl, wpAny_pure h⟩) htake))
end
section
variable {X : Cx}
def tHalf (K : PySem.W.Frag) (te : TE) : TE := fun σ H Q => te σ H fun x H1 => ∃ a xs, x = .ref a ∧ (SqL K H1 a xs ∨ SqT K H1 a xs) ∧
  ∀ p H2, (∀ b o, H1 b = some o → H2 b = some o) → H1 p = none → (SqL K H2 p (ev2 xs) ∨ SqT K H2 p (ev2 xs)) → Q (.ref p) H2
theorem new_same {H : Hp} {p : Addr} {o : HO} (n : H p = none) : ∀ b u, H b = some u → upd H p o b = some u := fun b u e => by
  rw [upd_ne (ne_of_none e n)]
  exact e
theorem pe_half {e : Expr} {te : TE} {k : Nat} {p1 p3 pos : Pos} (he : PE X e te) : PE X (.Subscript e (.Slice none none (some (.Constant (.int 2) k p1)) p3) pos) (tHalf X.K te) := by
  refine ⟨fun pins s σ H Q I h => ?_⟩
  refine Subscript_ (thn (he.run pins s σ H _ I h) fun v s1 ⟨x, H1, I1, r1, q1⟩ => ?_)
  obtain ⟨a, xs, ex, hq, q⟩ := q1
  subst ex
  cases r1
  have hst : PO X (some (.Constant (.int 2) k p1)) (tPart (tC (.int 2))) := po_some pe_int
  refine wpAny_Slice (thn (po_none.run pins s1 σ H1 (fun o H2 => o = none ∧ H2 = H1) I1 ⟨rfl, rfl⟩) fun vl s2 ⟨l, H2, I2, pl, el, e2⟩ => ?_)
  subst el e2
  refine thn (po_none.run pins s2 σ H2 (fun o H3 => o = none ∧ H3 = H2) I2 ⟨rfl, rfl⟩) fun vu s3 ⟨u, H3, I3, pu, eu, e3⟩ => ?_
  subst eu e3
  refine thn (hst.run pins s3 σ H3 (fun o H4 => o = some 2 ∧ H4 = H3) I3 ⟨2, rfl, rfl, rfl⟩) fun vs s4 ⟨o, H4, I4, ps, eo, e4⟩ => ?_
  subst eo e4
  have I5 : Inv X pins σ H4 { s4 with heap := s4.heap.push { cls := .type "slice", data := .fields #[vl, vu, vs] } } := I4.kept (t' := s4.toks) fun b ob q => Heap.get?_push_of_some _ q
  rcases hq with hx | hx
  · obtain ⟨its, r, ht, hz⟩ := I5.list hx
    have hlen := r.length
    show wpAny (model X.prog X.w) X.A (subscriptTail e (.Slice none none (some (.Constant (.int 2) k p1)) p3) (.ref a) (.ref s4.heap.objs.size)) (EP X pins σ Q) X.xe { s4 with heap := s4.heap.push { cls := .type "slice", data := .fields #[vl, vu, vs] } }
    refine tail_any (ops := [.ref a, .ref s4.heap.objs.size]) ht.isList.typeIs (PySem.slot_list_getitem.lookup) ?_ (by with_unfolding_all rfl)
    refine wpAny_getItem_list_slice ht.isList (Heap.IsSliceOf.new _ vl vu vs) pl pu ps (by decide) ?_ (by rw [List.size_toArray]; omega)
    rw [pick2]
    refine ⟨.ref _, _, I5.laid (t' := s4.toks) (o := .lst (ev2 xs)) (fun b ob q => Heap.get?_push_of_some _ q) (Nat.le_refl _) ?_, rfl, q _ _ (new_same (I5.hok.fresh (Nat.le_refl _))) (I5.hok.fresh (Nat.le_refl _)) (.inl (SqL.of upd_same))⟩
    exact ⟨Nat.le_trans (ev2_le xs) hz, _, 0, ev2_vals r, Heap.get?_push_size _ rfl⟩
  · obtain ⟨its, r, ht, hz⟩ := I5.tuple hx
    have hlen := r.length
    cases pl
    cases pu
    cases ps
    show wpAny (model X.prog X.w) X.A (subscriptTail e (.Slice none none (some (.Constant (.int 2) k p1)) p3) (.ref a) (.ref s4.heap.objs.size)) (EP X pins σ Q) X.xe { s4 with heap := s4.heap.push { cls := .type "slice", data := .fields #[Value.none, Value.none, .int 2 _] } }
    refine tail_any (ops := [.ref a, .ref s4.heap.objs.size]) ht.typeIs (PyProof.Rows.slot_tuple_getitem.lookup) ?_ (by with_unfolding_all rfl)
    refine getItem_tuple_2 ht (Heap.IsSliceOf.new _ _ _ _) ?_ (by rw [List.size_toArray]; omega)
    refine ⟨.ref _, _, I5.laid (t' := s4.toks) (o := .tup (ev2 xs)) (fun b ob q => Heap.get?_push_of_some _ q) (Nat.le_refl _) ?_, rfl, q _ _ (new_same (I5.hok.fresh (Nat.le_refl _))) (I5.hok.fresh (Nat.le_refl _)) (.inr (SqT.of upd_same))⟩
    exact ⟨Nat.le_trans (ev2_le xs) hz, _, ev2_vals r, IsTup.new _ _⟩
theorem keepL {K : PySem.W.Frag} {H H' : Hp} {a : Addr} {xs : List V} (e : Same H H') (h : SqL K H a xs) : SqL K H' a xs := by
  rcases h with (h | ⟨o, h⟩) | h
  · exact .inl (.inl (e _ _ h))
  · exact .inl (.inr ⟨o, e _ _ h⟩)
  · exact .inr h
theorem keepT {K : PySem.W.Frag} {H H' : Hp} {a : Addr} {xs : List V} (e : Same H H') (h : SqT K H a xs) : SqT K H' a xs := by
  rcases h with (h | ⟨o, h⟩) | h
  · exact .inl (.inl (e _ _ h))
  · exact .inl (.inr ⟨o, e _ _ h⟩)
  · exact .inr h
def iSeq (K : PySem.W.Frag) (tl : TE) : TI := fun σ H R => tl σ H fun x H1 => ∃ a xs, x = .ref a ∧ (SqL K H1 a xs ∨ SqT K H1 a xs) ∧
  ∀ J G, Walk J xs.length G (YAt xs) → (∀ H', Same H1 H' → G H') → R J H1
theorem pi_seq {tg l : Expr} {tl : TE} (hl : PE X l tl) : PI X tg l (iSeq X.K tl) := by
  refine ⟨fun pins s σ H R I h => ?_⟩
  refine thn (hl.run pins s σ H _ I h) fun v s1 ⟨x, H1, I1, r1, q1⟩ => ?_
  obtain ⟨a, xs, e, hq, q⟩ := q1
  subst e
  cases r1
  rcases hq with hq | hq
  · have q := q _ _ walk_list fun H' s => keepL s hq
    obtain ⟨its, rv, p, hz⟩ := I1.list hq
    refine wpAny_pyIter_list p.isList ?_
    refine ⟨s1.heap.objs.size, [s1.heap.objs.size], _, _, H1, rfl, I1.kept (t' := s1.toks) fun b o e => Heap.get?_push_of_some _ e, turn_list a _, ⟨_, Heap.get?_push_size _ rfl, rfl, rfl⟩, fun b hb => ?_, q⟩
    have e : b = s1.heap.objs.size := by simpa using hb
    subst e
    exact I1.fpOk (Nat.le_refl _) (I1.hok.fresh (Nat.le_refl _))
  · have q := q _ _ walk_tup fun H' s => keepT s hq
    obtain ⟨its, rv, p, hz⟩ := I1.tuple hq
    refine wpAny_pyIter_tuple (show s1.heap.IsTuple a its.toArray from p) ?_
    refine ⟨s1.heap.objs.size, [s1.heap.objs.size], _, _, H1, rfl, I1.kept (t' := s1.toks) fun b o e => Heap.get?_push_of_some _ e, turn_tuple a _, ⟨_, Heap.get?_push_size _ rfl, rfl, rfl⟩, fun b hb => ?_, q⟩
    have e : b = s1.heap.objs.size := by simpa using hb
    subst e
    exact I1.fpOk (Nat.le_refl _) (I1.hok.fresh (Nat.le_refl _))
end
end Hf

/-! Rows read back: strokes, steps, groups. -/
namespace Wm
open PySem L2 TL
/-- the rows of the first digits, without the two ticks at the end -/
def pre : List Nat → List Int
  | [] => []
  | d :: ds => blk d ++ ([0, 0] ++ pre ds)
theorem pre_app : ∀ (ds : List Nat) (d : Nat), pre (ds ++ [d]) = pre ds ++ (blk d ++ [0, 0])
  | [], d => by show blk d ++ ([0, 0] ++ []) = [] ++ _; simp
  | e :: ds, d => by
    show blk e ++ ([0, 0] ++ pre (ds ++ [d])) = (blk e ++ ([0, 0] ++ pre ds)) ++ _
    rw [pre_app ds d]
    simp only [List.append_assoc]
theorem pre_row : ∀ ds : List Nat, pre ds ++ [0, 0] = rowL ds
  | [] => rfl
  | d :: ds => by
    show (blk d ++ ([0, 0] ++ pre ds)) ++ _ = blk d ++ ([0, 0] ++ rowL ds)
    rw [← pre_row ds]
    simp only [List.append_assoc]
theorem blk_V (d : Nat) : (List.replicate d [V.int 1, V.int 0]).flatten = (blk d).map V.int := by
  unfold blk
  rw [List.map_flatten, List.map_replicate]
  rfl
theorem pre_le : ∀ ds : List Nat, (∀ d ∈ ds, d ≤ 9) → (pre ds).length ≤ 20 * ds.length
  | [], _ => by decide
  | d :: ds, h => by
    have ih := pre_le ds fun y m => h y (List.mem_cons_of_mem _ m)
    have hd := h d (by simp)
    show (blk d ++ ([0, 0] ++ pre ds)).length ≤ _
    rw [List.length_append, List.length_append, blk_len]
    simp only [List.length_cons, List.length_nil]
    omega
theorem take_succ_app {α : Type} {l : List α} {i : Nat} {x : α} (h : l[i]? = some x) : l.take (i + 1) = l.take i ++ [x] := by
  rw [List.take_add_one, h]
  rfl
theorem take_succ_map {α β : Type} {l : List α} {i : Nat} {x : α} (f : α → β) (h : l[i]? = some x) : (l.take i).map f ++ [f x] = (l.take (i + 1)).map f := by
  rw [take_succ_app h, List.map_append]
  rfl
theorem row_sum : ∀ ds : List Nat, (rowL ds).length = 2 * (ds.sum + ds.length + 1)
  | [] => rfl
  | d :: ds => by
    have ih := row_sum ds
    show (blk d ++ ([0, 0] ++ rowL ds)).length = _
    rw [List.length_append, List.length_append, blk_len, ih, List.sum_cons]
    simp only [List.length_cons, List.length_nil]
    omega
theorem row_le (ds : List Nat) (N : Num ds) : (rowL ds).length ≤ 100 := by
  have h := rowL_le ds fun d m => (N.dig d m).2
  have l := N.len
  omega
theorem row_bits : ∀ (ds : List Nat) (z : Int), z ∈ rowL ds → z = 0 ∨ z = 1
  | [], z, h => by
    have h : z ∈ [0, 0] := h
    simp only [List.mem_cons, List.not_mem_nil, or_false, or_self] at h
    exact .inl h
  | d :: ds, z, h => by
    have h : z ∈ blk d ++ ([0, 0] ++ rowL ds) := h
    rw [List.mem_append, List.mem_append] at h
    rcases h with h | h | h
    · obtain ⟨l, hl, hz⟩ := List.mem_flatten.mp h
      rw [(List.mem_replicate.mp hl).2] at hz
      simp only [List.mem_cons, List.not_mem_nil, or_false] at hz
      exact hz.symm
    · simp only [List.mem_cons, List.not_mem_nil, or_false, or_self] at h
      exact .inl h
    · exact row_bits ds z h
/-! strokes -/
def ones : Nat → List Int → List Nat
  | _, [] => []
  | o, x :: xs => if x = 1 then o :: ones (o + 1) xs else ones (o + 1) xs
theorem ones_app : ∀ (a : List Int) (o : Nat) (b : List Int), ones o (a ++ b) = ones o a ++ ones (o + a.length) b
  | [], o, b => rfl
  | x :: a, o, b => by
    have ih := ones_app a (o + 1) b
    have e : o + (x :: a).length = o + 1 + a.length := by rw [List.length_cons]; omega
    rw [e]
    show (if x = 1 then o :: ones (o + 1) (a ++ b) else ones (o + 1) (a ++ b)) = (if x = 1 then o :: ones (o + 1) a else ones (o + 1) a) ++ _
    rw [ih]
    by_cases c : x = 1
    · rw [if_pos c, if_pos c]; rfl
    · rw [if_neg c, if_neg c]
theorem ones_mem : ∀ (xs : List Int) (o k : Nat), k ∈ ones o xs ↔ ∃ j, k = o + j ∧ xs[j]? = some 1
  | [], o, k => by simp [ones]
  | x :: xs, o, k => by
    have ih := ones_mem xs (o + 1) k
    show k ∈ (if x = 1 then o :: ones (o + 1) xs else ones (o + 1) xs) ↔ _
    constructor
    · intro h
      by_cases c : x = 1
      · rw [if_pos c] at h
        rcases List.mem_cons.mp h with e | e
        · exact ⟨0, by omega, by rw [c]; rfl⟩
        · obtain ⟨j, e1, e2⟩ := ih.mp e
          exact ⟨j + 1, by omega, by simpa using e2⟩
      · rw [if_neg c] at h
        obtain ⟨j, e1, e2⟩ := ih.mp h
        exact ⟨j + 1, by omega, by simpa using e2⟩
    · rintro ⟨j, e1, e2⟩
      cases j with
      | zero =>
        have c : x = 1 := Option.some.inj e2
        rw [if_pos c]
        exact List.mem_cons.mpr (.inl (by omega))
      | succ j =>
        have m : k ∈ ones (o + 1) xs := ih.mpr ⟨j, by omega, by simpa using e2⟩
        by_cases c : x = 1
        · rw [if_pos c]; exact List.mem_cons_of_mem _ m
        · rw [if_neg c]; exact m
theorem ones_blk (o d : Nat) : ones o (blk (d + 1)) = ones o (blk d) ++ [o + 2 * d] := by
  rw [blk_add, ones_app, blk_len]
  rfl
theorem ones_end (a : List Int) (o : Nat) : ones o (a ++ [0, 0]) = ones o a := by
  rw [ones_app]
  show ones o a ++ [] = _
  rw [List.append_nil]
theorem step2 (s : List Nat) (d : Nat) : ones 0 (pre s ++ blk (d + 1)) = ones 0 (pre s ++ blk d) ++ [(pre s).length + 2 * d] := by
  rw [ones_app, ones_app, ones_blk, List.append_assoc, Nat.zero_add]
theorem step4 (s : List Nat) (d : Nat) : ones 0 (pre (s ++ [d]) ++ blk 1) = ones 0 (pre s ++ blk d) ++ [(pre s).length + 2 * d + 2] := by
  rw [ones_app, pre_app, ← List.append_assoc, ones_end]
  have e : ((pre s ++ blk d) ++ ([0, 0] : List Int)).length = (pre s).length + 2 * d + 2 := by
    rw [List.length_append, List.length_append, blk_len]
    rfl
  rw [e, Nat.zero_add]
  rfl
theorem ones_row (s : List Nat) (d : Nat) : ones 0 (rowL (s ++ [d])) = ones 0 (pre s ++ blk d) := by
  rw [← pre_row, pre_app, ← List.append_assoc, ones_end, ones_end]
theorem ones_inj {ds es : List Nat} (h1 : ∀ d ∈ ds, 1 ≤ d) (h2 : ∀ e ∈ es, 1 ≤ e) (h : ones 0 (rowL ds) = ones 0 (rowL es)) : ds = es := by
  rcases rows_part ds es h1 h2 with q | ⟨k, q, _⟩ | ⟨k, q, _⟩
  · exact q
  · have m : k ∈ ones 0 (rowL ds) := (ones_mem _ _ _).mpr ⟨k, by omega, q.one⟩
    rw [h] at m
    obtain ⟨j, e1, e2⟩ := (ones_mem _ _ _).mp m
    rw [show j = k by omega, q.two] at e2
    cases e2
  · have m : k ∈ ones 0 (rowL es) := (ones_mem _ _ _).mpr ⟨k, by omega, q.two⟩
    rw [← h] at m
    obtain ⟨j, e1, e2⟩ := (ones_mem _ _ _).mp m
    rw [show j = k by omega, q.one] at e2
    cases e2
def St (l : List Nat) : Prop := ∀ (k a b : Nat), l[k]? = some a → l[k + 1]? = some b → b = a + 2 ∨ b = a + 4
theorem St.cons {x : Nat} {l : List Nat} (h : ∀ y, l.head? = some y → y = x + 2 ∨ y = x + 4) (s : St l) : St (x :: l) := by
  intro k a b e1 e2
  cases k with
  | zero =>
    have e : x = a := Option.some.inj e1
    subst e
    refine h b ?_
    rw [List.head?_eq_getElem?]
    exact e2
  | succ k => exact s k a b (by simpa using e1) (by simpa using e2)
theorem steps_blk {l : List Int} (hl : ∀ o, St (ones o l) ∧ ∀ y, (ones o l).head? = some y → y = o) : ∀ (d o : Nat), St (ones o (blk d ++ ([0, 0] ++ l))) ∧ ∀ y, (ones o (blk d ++ ([0, 0] ++ l))).head? = some y → (y = o ∨ y = o + 2)
  | 0, o => by
    have h := hl (o + 2)
    exact ⟨h.1, fun y e => .inr (h.2 y e)⟩
  | d + 1, o => by
    have ih := steps_blk hl d (o + 2)
    have e : ones o (blk (d + 1) ++ ([0, 0] ++ l)) = o :: ones (o + 2) (blk d ++ ([0, 0] ++ l)) := by
      rw [blk_succ]
      rfl
    rw [e]
    refine ⟨ih.1.cons fun y q => ?_, fun y q => .inl (Option.some.inj q).symm⟩
    rcases ih.2 y q with z | z
    · exact .inl z
    · exact .inr (by omega)
theorem steps_row : ∀ (es : List Nat), (∀ d ∈ es, 1 ≤ d) → ∀ o, St (ones o (rowL es)) ∧ ∀ y, (ones o (rowL es)).head? = some y → y = o
  | [], _, o => ⟨fun k a b (e : (none : Option Nat) = some a) => (by cases e), fun y (e : (none : Option Nat) = some y) => by cases e⟩
  | d :: es, h, o => by
    have ih := steps_row es fun y m => h y (List.mem_cons_of_mem _ m)
    obtain ⟨f, rfl⟩ : ∃ f, d = f + 1 := ⟨d - 1, by have := h d (by simp); omega⟩
    have q := steps_blk ih (f + 1) o
    refine ⟨q.1, fun y e => ?_⟩
    have e' : ones o (rowL ((f + 1) :: es)) = o :: ones (o + 2) (blk f ++ ([0, 0] ++ rowL es)) := by
      show ones o (blk (f + 1) ++ _) = _
      rw [blk_succ]
      rfl
    rw [e'] at e
    exact (Option.some.inj e).symm
theorem first_row (d : Nat) (es : List Nat) (h : 1 ≤ d) : (ones 0 (rowL (d :: es)))[0]? = some 0 := by
  obtain ⟨f, rfl⟩ : ∃ f, d = f + 1 := ⟨d - 1, by omega⟩
  show (ones 0 (blk (f + 1) ++ _))[0]? = _
  rw [blk_succ]
  rfl
/-! groups -/
def gaps : List Int → List Nat
  | [] => [0]
  | z :: zs => if z = 1 then (match gaps zs with | [] => [1] | g :: gs => (g + 1) :: gs) else 0 :: gaps zs
theorem gaps_ne : ∀ zs, gaps zs ≠ []
  | [] => by simp [gaps]
  | z :: zs => by
    show (if z = 1 then (match gaps zs with | [] => [1] | g :: gs => (g + 1) :: gs) else 0 :: gaps zs) ≠ []
    by_cases c : z = 1
    · rw [if_pos c]
      split <;> simp
    · rw [if_neg c]; simp
def bits (zs : List Int) : List Nat := zs.map fun z => if z = 1 then 49 else 48
theorem joinL_cons {s : List Nat} {p : List Nat} {ps : List (List Nat)} (h : ps ≠ []) : joinL s (p :: ps) = p ++ (s ++ joinL s ps) := by
  cases ps with
  | nil => exact absurd rfl h
  | cons q r => rfl
theorem joinL_one (s p : List Nat) : joinL s [p] = p := rfl
theorem map_ne {α β : Type} {f : α → β} {l : List α} (h : l ≠ []) : l.map f ≠ [] := fun e => h (List.map_eq_nil_iff.mp e)
theorem gaps_join : ∀ zs, bits zs = joinL [48] ((gaps zs).map fun g => List.replicate g 49)
  | [] => rfl
  | z :: zs => by
    have ih := gaps_join zs
    have ne := gaps_ne zs
    show (if z = 1 then 49 else 48) :: bits zs = joinL [48] ((if z = 1 then (match gaps zs with | [] => [1] | g :: gs => (g + 1) :: gs) else 0 :: gaps zs).map _)
    by_cases c : z = 1
    · rw [if_pos c, if_pos c]
      cases e : gaps zs with
      | nil => exact absurd e ne
      | cons g gs =>
        rw [e] at ih
        rw [ih]
        cases gs with
        | nil => rfl
        | cons g2 gs => rfl
    · rw [if_neg c, if_neg c, List.map_cons, joinL_cons (map_ne ne), ← ih]
      rfl
theorem gaps_sum : ∀ zs, (gaps zs).sum ≤ zs.length ∧ (gaps zs).length ≤ zs.length + 1
  | [] => by decide
  | z :: zs => by
    have ih := gaps_sum zs
    show (if z = 1 then (match gaps zs with | [] => [1] | g :: gs => (g + 1) :: gs) else 0 :: gaps zs).sum ≤ zs.length + 1 ∧ (if z = 1 then (match gaps zs with | [] => [1] | g :: gs => (g + 1) :: gs) else 0 :: gaps zs).length ≤ zs.length + 1 + 1
    by_cases c : z = 1
    · rw [if_pos c]
      cases e : gaps zs with
      | nil => exact absurd e (gaps_ne zs)
      | cons g gs =>
        rw [e, List.sum_cons, List.length_cons] at ih
        show ((g + 1) :: gs).sum ≤ _ ∧ ((g + 1) :: gs).length ≤ _
        rw [List.sum_cons, List.length_cons]
        omega
    · rw [if_neg c, List.sum_cons, List.length_cons]
      omega
theorem mem_sum {g : Nat} : ∀ {l : List Nat}, g ∈ l → g ≤ l.sum
  | a :: l, h => by
    rw [List.sum_cons]
    rcases List.mem_cons.mp h with e | e
    · omega
    · have := mem_sum e
      omega
theorem gaps_le {zs : List Int} {g : Nat} (h : g ∈ gaps zs) : g ≤ zs.length := by
  have h1 := (gaps_sum zs).1
  have h2 : g ≤ (gaps zs).sum := mem_sum h
  omega
theorem ev2_row : ∀ ds, Hf.ev2 (rowL ds) = (match ds with | [] => [0] | d :: r => List.replicate d 1 ++ (0 :: Hf.ev2 (rowL r)))
  | [] => rfl
  | d :: r => by
    show Hf.ev2 (blk d ++ ([0, 0] ++ rowL r)) = List.replicate d 1 ++ (0 :: Hf.ev2 (rowL r))
    induction d with
    | zero => rfl
    | succ d ih =>
      rw [blk_succ, List.replicate_succ]
      show (1 : Int) :: Hf.ev2 (blk d ++ ([0, 0] ++ rowL r)) = _
      rw [ih]
      rfl
theorem gaps_rep (l : List Int) (d : Nat) : gaps (List.replicate d 1 ++ (0 :: l)) = d :: gaps l := by
  induction d with
  | zero => rfl
  | succ d ih =>
    rw [List.replicate_succ]
    show (if (1 : Int) = 1 then (match gaps (List.replicate d 1 ++ (0 :: l)) with | [] => [1] | g :: gs => (g + 1) :: gs) else _) = _
    rw [if_pos rfl, ih]
theorem gaps_row : ∀ ds, gaps (Hf.ev2 (rowL ds)) = ds ++ [0, 0]
  | [] => rfl
  | d :: r => by
    rw [ev2_row]
    show gaps (List.replicate d 1 ++ (0 :: Hf.ev2 (rowL r))) = _
    rw [gaps_rep, gaps_row r]
    rfl
end Wm

/-! Ticks of bent rows as data. -/
namespace Wm
open PySem L2
inductive Tk : PyData → Prop
  | int {i : Int} : i.natAbs < 1000000 → Tk (.int i)
  | bl (b : Bool) : Tk (.bool b)
  | non : Tk .none
  | one : Tk (.str "1")
  | lst : Tk (.list [.int 0])
def Item (K : PySem.W.Frag) (H : Hp) (x : V) : Prop := ∃ d, Dp K H x d ∧ Tk d
theorem sqL_keep {K : PySem.W.Frag} {H H' : Hp} {a : Addr} {xs : List V} (e : Same H H') (h : SqL K H a xs) : SqL K H' a xs := by
  rcases h with (h | ⟨o, h⟩) | h
  · exact .inl (.inl (e _ _ h))
  · exact .inl (.inr ⟨o, e _ _ h⟩)
  · exact .inr h
theorem tk_keep {K : PySem.W.Frag} {H H' : Hp} {x : V} {d : PyData} (e : Same H H') (h : Dp K H x d) (t : Tk d) : Dp K H' x d := by
  cases t with
  | int _ => cases h; exact .int _
  | bl b => cases h; exact .bl _
  | non => cases h; exact .non
  | one => cases h; exact .str _
  | lst =>
    cases h with
    | lst q a =>
      refine .lst (sqL_keep e q) ?_
      cases a with
      | cons b c =>
        cases b
        cases c
        exact .cons (.int _) .nil
theorem Item.keep {K : PySem.W.Frag} {H H' : Hp} {x : V} (e : Same H H') (h : Item K H x) : Item K H' x := let ⟨d, a, b⟩ := h; ⟨d, tk_keep e a b, b⟩
theorem tks_keep {K : PySem.W.Frag} {H H' : Hp} (e : Same H H') : ∀ {xs : List V} {ds : List PyData}, DpAll K H xs ds → (∀ d ∈ ds, Tk d) → DpAll K H' xs ds
  | _, _, .nil, _ => .nil
  | _, _, .cons a b, t => .cons (tk_keep e a (t _ (by simp))) (tks_keep e b fun d m => t d (List.mem_cons_of_mem _ m))
theorem items_data {K : PySem.W.Frag} {H : Hp} : ∀ {xs : List V}, (∀ x ∈ xs, Item K H x) → ∃ ds, DpAll K H xs ds ∧ (∀ d ∈ ds, Tk d) ∧ ds.length = xs.length
  | [], _ => ⟨[], .nil, by simp, rfl⟩
  | x :: xs, h => by
    obtain ⟨d, a, b⟩ := h x (by simp)
    obtain ⟨ds, c1, c2, c3⟩ := items_data (xs := xs) fun y m => h y (List.mem_cons_of_mem _ m)
    refine ⟨d :: ds, .cons a c1, fun y m => ?_, by rw [List.length_cons, List.length_cons, c3]⟩
    rcases List.mem_cons.mp m with q | q
    · rw [q]; exact b
    · exact c2 y q
theorem item_int {K : PySem.W.Frag} {H : Hp} {i : Int} (h : i.natAbs < 1000000) : Item K H (.int i) := ⟨_, .int i, .int h⟩
theorem tk_lay {d : PyData} (t : Tk d) : d.canLay0 = true ∧ d.depth ≤ 1 := by
  cases t with
  | int _ => exact ⟨by simp [PyData.canLay0], by simp [PyData.depth]⟩
  | bl b => exact ⟨by simp [PyData.canLay0], by simp [PyData.depth]⟩
  | non => exact ⟨by simp [PyData.canLay0], by simp [PyData.depth]⟩
  | one => exact ⟨by decide +kernel, by simp [PyData.depth]⟩
  | lst => exact ⟨by simp [PyData.canLay0, PyData.canLayAll0], by simp [PyData.depth, PyData.depthAll]⟩
theorem tks_lay : ∀ {ds : List PyData}, (∀ d ∈ ds, Tk d) → PyData.canLayAll0 ds = true ∧ PyData.depthAll ds ≤ 1
  | [], _ => by simp [PyData.canLayAll0, PyData.depthAll]
  | d :: ds, h => by
    have h1 := tk_lay (h d (by simp))
    have h2 := tks_lay (ds := ds) fun y m => h y (List.mem_cons_of_mem _ m)
    simp only [PyData.canLayAll0, PyData.depthAll, h1.1, h2.1, Bool.and_self, true_and]
    omega
theorem tks_shaped {ds : List PyData} (h : ∀ d ∈ ds, Tk d) : SeqAt.shaped (.list ds) = true := by
  have q := tks_lay h
  have e : decide ((PyData.list ds).depth ≤ 64) = true := decide_eq_true (by simp only [PyData.depth]; omega)
  show ((PyData.list ds).canLay0 && _) = true
  rw [e, Bool.and_true]
  exact q.1
theorem tk_show {d : PyData} (t : Tk d) : d.showable = true ∧ d.hasDict = false ∧ d.leavesShort 13 = true ∧ d.weight ≤ 30 := by
  cases t with
  | @int i h =>
    have hl : i.natAbs.log2 < 20 ∨ i = 0 := by
      by_cases z : i = 0
      · exact .inr z
      · exact .inl ((Nat.log2_lt (by omega)).mpr (by omega))
    refine ⟨decide_eq_true ?_, rfl, decide_eq_true (PyData.shown_int_le (by omega)), ?_⟩
    · rcases hl with z | z
      · omega
      · subst z; decide
    · rcases hl with z | z
      · simp only [PyData.weight]; split <;> omega
      · subst z; decide
  | bl b => exact ⟨rfl, rfl, rfl, by simp [PyData.weight]⟩
  | non => exact ⟨rfl, rfl, rfl, by simp [PyData.weight]⟩
  | one => exact ⟨rfl, rfl, by decide +kernel, by decide +kernel⟩
  | lst => exact ⟨by decide +kernel, rfl, by decide +kernel, by decide +kernel⟩
theorem tks_show : ∀ {ds : List PyData}, (∀ d ∈ ds, Tk d) → PyData.showableAll ds = true ∧ PyData.hasDictAll ds = false ∧ PyData.leavesShortAll 13 ds = true ∧ PyData.weightAll ds ≤ 31 * ds.length
  | [], _ => by simp [PyData.showableAll, PyData.hasDictAll, PyData.leavesShortAll, PyData.weightAll]
  | d :: ds, h => by
    have h1 := tk_show (h d (by simp))
    have h2 := tks_show (ds := ds) fun y m => h y (List.mem_cons_of_mem _ m)
    simp only [PyData.showableAll, PyData.hasDictAll, PyData.leavesShortAll, PyData.weightAll, h1.1, h1.2.1, h1.2.2.1, h2.1, h2.2.1, h2.2.2.1, Bool.and_self, Bool.or_self, true_and, List.length_cons]
    omega
theorem tks_shown {ds : List PyData} (h : ∀ d ∈ ds, Tk d) (l : ds.length ≤ 1000) : (PyData.list ds).shown.length ≤ sizeLine :=
  PyData.shown_fits (B := 13) (by decide) (by decide) (tks_show h).2.2.1 (Nat.le_trans (tks_show h).2.2.2 (by omega))
def isI : V → Bool
  | .int _ => true
  | _ => false
def isBit (x : V) : Bool := decide (x = .int 0) || decide (x = .int 1)
theorem all_ints {xs : List V} (h : ∀ x ∈ xs, isI x = true) : ∃ zs : List Int, xs = zs.map V.int := by
  induction xs with
  | nil => exact ⟨[], rfl⟩
  | cons x xs ih =>
    obtain ⟨zs, e⟩ := ih fun y m => h y (List.mem_cons_of_mem _ m)
    have hx := h x (by simp)
    cases x with
    | int i => exact ⟨i :: zs, by rw [e]; rfl⟩
    | _ => cases hx
theorem all_bits {xs : List V} (h : ∀ x ∈ xs, isBit x = true) : ∃ zs : List Int, xs = zs.map V.int ∧ ∀ z ∈ zs, z = 0 ∨ z = 1 := by
  induction xs with
  | nil => exact ⟨[], rfl, by simp⟩
  | cons x xs ih =>
    obtain ⟨zs, e, b⟩ := ih fun y m => h y (List.mem_cons_of_mem _ m)
    have hx := h x (by simp)
    have hc : x = .int 0 ∨ x = .int 1 := by
      rcases Bool.or_eq_true_iff.mp hx with q | q
      · exact .inl (of_decide_eq_true q)
      · exact .inr (of_decide_eq_true q)
    have : ∃ i : Int, x = .int i ∧ (i = 0 ∨ i = 1) := by
      rcases hc with q | q
      · exact ⟨0, q, .inl rfl⟩
      · exact ⟨1, q, .inr rfl⟩
    obtain ⟨i, rfl, hi⟩ := this
    refine ⟨i :: zs, by rw [e]; rfl, fun z m => ?_⟩
    rcases List.mem_cons.mp m with q | q
    · rw [q]; exact hi
    · exact b z q
/-- what isinstance asks of such a tick -/
theorem tyx_of {K : PySem.W.Frag} {H : Hp} {x : V} (h : Item K H x) : ∃ (n : String) (a b : Bool), TyX K H x (.type n) ∧ PySem.W.kitOne K (.type n) (.type "int") = some a ∧
    PySem.W.kitOne K (.type n) (.type "bool") = some b ∧ (a && !b) = isI x := by
  obtain ⟨d, h, t⟩ := h
  cases t with
  | int _ => cases h; exact ⟨"int", true, false, .base (.int _), kit_ty (by decide +kernel), kit_ty (by decide +kernel), rfl⟩
  | bl b => cases h; exact ⟨"bool", true, true, .base (.bl _), kit_ty (by decide +kernel), kit_ty (by decide +kernel), rfl⟩
  | non => cases h; exact ⟨"NoneType", false, false, .base .non, kit_ty (by decide +kernel), kit_ty (by decide +kernel), rfl⟩
  | one => cases h; exact ⟨"str", false, false, .base (.str _), kit_ty (by decide +kernel), kit_ty (by decide +kernel), rfl⟩
  | lst =>
    cases h with
    | lst q a =>
      rcases q with (q | ⟨o, q⟩) | q
      · exact ⟨"list", false, false, .base (.lst q), kit_ty (by decide +kernel), kit_ty (by decide +kernel), rfl⟩
      · exact ⟨"list", false, false, .base (.frz q), kit_ty (by decide +kernel), kit_ty (by decide +kernel), rfl⟩
      · obtain ⟨o, xs, n, e, c, _⟩ := q
        exact ⟨"list", false, false, .kList e c, kit_ty (by decide +kernel), kit_ty (by decide +kernel), rfl⟩
/-- a list or a tuple -/
def SqA (K : PySem.W.Frag) (H : Hp) (a : Addr) (xs : List V) : Prop := SqL K H a xs ∨ SqT K H a xs
theorem SqA.keep {K : PySem.W.Frag} {H H' : Hp} {a : Addr} {xs : List V} (e : Same H H') (h : SqA K H a xs) : SqA K H' a xs := h.imp (sqL_keep e) (sameT e)
end Wm

/-! Texts of digits: halves, groups, the number they tell. -/
namespace Wm
open PySem L2 TL
def oneS (g : Nat) : Str := ⟨(List.replicate g 49).toArray⟩
def bitS (z : Int) : Str := if z = 1 then "1" else "0"
def decS (g : Nat) : Str := ((toString (g : Int) : String) : Str)
theorem bit_str {z : Int} (h : z = 0 ∨ z = 1) : ((toString z : String) : Str) = bitS z := by
  rcases h with e | e <;> subst e <;> decide +kernel
theorem tl_bit (z : Int) : tl (bitS z) = [if z = 1 then 49 else 48] := by
  unfold bitS
  by_cases c : z = 1
  · rw [if_pos c, if_pos c]; decide +kernel
  · rw [if_neg c, if_neg c]; decide +kernel
theorem joinL_nil : ∀ ps : List (List Nat), joinL [] ps = ps.flatten
  | [] => rfl
  | [p] => by show p = [p].flatten; simp
  | p :: q :: r => by
    show p ++ ([] ++ joinL [] (q :: r)) = _
    rw [joinL_nil (q :: r), List.nil_append]
    rfl
theorem tl_empty : tl ("" : Str) = [] := by decide +kernel
theorem tl_zero : tl ("0" : Str) = [48] := by decide +kernel
theorem tl_join0 (ys : List Str) : tl (Txt.join "" ys) = (ys.map tl).flatten := by
  rw [join_eq, tl_join, tl_empty, joinL_nil]
theorem bits_flat : ∀ zs : List Int, ((zs.map bitS).map tl).flatten = bits zs
  | [] => rfl
  | z :: zs => by
    rw [List.map_cons, List.map_cons, List.flatten_cons, bits_flat zs, tl_bit]
    rfl
theorem halves_eq (zs : List Int) : Txt.join "" (zs.map bitS) = Txt.join "0" ((gaps zs).map oneS) := by
  refine ext_tl ?_
  rw [tl_join0, bits_flat, gaps_join, join_eq, tl_join, tl_zero, List.map_map]
  rfl
theorem groups_eq (zs : List Int) : Txt.split (Txt.join "" (zs.map bitS)) "0" = (gaps zs).map oneS := by
  rw [halves_eq]
  refine split_join (s := 48) (S := []) tl_zero (by decide +kernel) (map_ne (gaps_ne zs)) fun p hp h => ?_
  obtain ⟨g, _, rfl⟩ := List.mem_map.mp hp
  have h : 48 ∈ List.replicate g 49 := h
  exact absurd (List.mem_replicate.mp h).2 (by decide)
theorem oneS_len (g : Nat) : (oneS g).length = g := by
  rw [len_tl]
  show (List.replicate g 49).length = g
  rw [List.length_replicate]
theorem halves_len (zs : List Int) : (Txt.join "" (zs.map bitS)).length = zs.length := by
  rw [len_tl, tl_join0, bits_flat]
  unfold bits
  rw [List.length_map]
theorem len4 : ∀ g : Fin 1001, (decS g.val).length ≤ 4 := by decide +kernel
theorem dec_len {g : Nat} (h : g ≤ 1000) : (decS g).length ≤ 4 := len4 ⟨g, by omega⟩
theorem dec_sum : ∀ {gs : List Nat}, (∀ g ∈ gs, g ≤ 1000) → ((gs.map decS).map (·.length)).sum ≤ 4 * gs.length
  | [], _ => by simp
  | g :: gs, h => by
    have h1 := dec_len (h g (by simp))
    have h2 := dec_sum (gs := gs) fun y m => h y (List.mem_cons_of_mem _ m)
    rw [List.map_cons, List.map_cons, List.sum_cons, List.length_cons]
    omega
theorem join0_len (ys : List Str) : (Txt.join "" ys).length = (ys.map (·.length)).sum := by
  rw [len_tl, tl_join0]
  induction ys with
  | nil => rfl
  | cons y ys ih => rw [List.map_cons, List.flatten_cons, List.length_append, ih, List.map_cons, List.sum_cons, len_tl]
theorem bit_sum (zs : List Int) : ((zs.map bitS).map (·.length)).sum = zs.length := by rw [← join0_len, halves_len]
theorem num_text : ∀ {ds : List Nat}, (∀ d ∈ ds, 1 ≤ d ∧ d ≤ 9) → Txt.join "" (ds.map decS) = numS ds
  | [], _ => by decide +kernel
  | d :: ds, h => by
    have ih := num_text (ds := ds) fun y m => h y (List.mem_cons_of_mem _ m)
    refine ext_tl ?_
    rw [tl_join0, List.map_cons, List.map_cons, List.flatten_cons, ← tl_join0, ih]
    have e : decS d = numS [d] := dig_str (h d (by simp))
    rw [e]
    rfl
/-- the number that a row of bits tells, if it is a row -/
def told (zs : List Int) : Str := Txt.join "" ((gaps (Hf.ev2 zs)).dropLast.dropLast.map decS)
theorem told_row {ds : List Nat} (h : ∀ d ∈ ds, 1 ≤ d ∧ d ≤ 9) : told (rowL ds) = numS ds := by
  unfold told
  rw [gaps_row, ← num_text h]
  congr 2
  show (ds ++ [0, 0]).dropLast.dropLast = ds
  rw [show (ds ++ [0, 0]) = (ds ++ [0]) ++ [0] by simp, List.dropLast_concat, List.dropLast_concat]
theorem digits_codes : ("123456789" : Str).cps.toList = [49, 50, 51, 52, 53, 54, 55, 56, 57] := by decide +kernel
theorem dig_text (t : Str) (h : ∀ c ∈ tl t, c ∈ ("123456789" : Str).cps.toList) : ∃ ds : List Nat, (∀ d ∈ ds, 1 ≤ d ∧ d ≤ 9) ∧ t = numS ds := by
  have h2 : ∀ c ∈ tl t, 49 ≤ c ∧ c ≤ 57 := fun c m => by
    have q := h c m
    rw [digits_codes] at q
    simp only [List.mem_cons, List.not_mem_nil, or_false] at q
    omega
  refine ⟨(tl t).map (· - 48), fun d m => ?_, ?_⟩
  · obtain ⟨c, mc, rfl⟩ := List.mem_map.mp m
    have := h2 c mc
    omega
  · refine ext_tl ?_
    show tl t = ((tl t).map (· - 48)).map (· + 48)
    rw [List.map_map]
    refine (List.map_id _).symm.trans (List.map_congr_left fun c m => ?_)
    have := h2 c m
    show c = c - 48 + 48
    omega
theorem num_codes {ds : List Nat} (h : ∀ d ∈ ds, 1 ≤ d ∧ d ≤ 9) : ∀ c ∈ tl (numS ds), c ∈ ("123456789" : Str).cps.toList := fun c m => by
  have m : c ∈ codes ds := m
  obtain ⟨d, md, rfl⟩ := List.mem_map.mp m
  exact dig_in (h d md)
def IsNum (t : Str) : Prop := ∃ ds, Num ds ∧ t = numS ds
theorem isnum_dig {ds : List Nat} : IsNum (numS ds) ↔ Num ds :=
  ⟨fun ⟨es, N, e⟩ => by rw [numS_inj e]; exact N, fun N => ⟨ds, N, rfl⟩⟩
theorem row_inj {ds es : List Nat} (N : Num ds) (M : Num es) (h : (rowL ds).map V.int = (rowL es).map V.int) : ds = es := by
  have e : rowL ds = rowL es := by
    have q := congrArg (List.map fun v => match v with | V.int i => i | _ => 0) h
    simpa [List.map_map, Function.comp_def] using q
  exact ones_inj (fun d m => (N.dig d m).1) (fun d m => (M.dig d m).1) (by rw [e])
theorem map_int_inj {xs ys : List Int} (h : xs.map V.int = ys.map V.int) : xs = ys := by
  have q := congrArg (List.map fun v => match v with | V.int i => i | _ => 0) h
  simpa [List.map_map, Function.comp_def] using q
/-- what number_of tells of a row -/
def Told (xs : List V) (v : V) : Prop := (∃ ds, Num ds ∧ xs = (rowL ds).map V.int ∧ v = .str (numS ds)) ∨ ((∀ ds, Num ds → xs ≠ (rowL ds).map V.int) ∧ v = .non)
theorem Told.uniq {xs : List V} {v u : V} (a : Told xs v) (b : Told xs u) : v = u := by
  rcases a with ⟨ds, N, e, rfl⟩ | ⟨n, rfl⟩
  · rcases b with ⟨es, M, f, rfl⟩ | ⟨n, _⟩
    · rw [row_inj N M (e.symm.trans f)]
    · exact absurd e (n ds N)
  · rcases b with ⟨es, M, f, rfl⟩ | ⟨_, rfl⟩
    · exact absurd f (n es M)
    · rfl
theorem Told.row {ds : List Nat} {v : V} (N : Num ds) (a : Told ((rowL ds).map V.int) v) : v = .str (numS ds) := a.uniq (.inl ⟨ds, N, rfl, rfl⟩)
end Wm

/-! Things as data: what may be asked whether it is a number. -/
namespace Wm
open PySem L2 TL
structure Tx (t : Str) : Prop where
  len : t.length ≤ 100
  asc : ∀ c ∈ tl t, c < 128
inductive Tg : PyData → Prop
  | int {i : Int} : i.natAbs < 1000000 → Tg (.int i)
  | bl (b : Bool) : Tg (.bool b)
  | non : Tg .none
  | str {t : Str} : Tx t → Tg (.str t)
  | lst {ts : List Str} : (∀ t ∈ ts, Tx t) → ts.length ≤ 100 → Tg (.list (ts.map .str))
  | tup {ts : List Str} : (∀ t ∈ ts, Tx t) → ts.length ≤ 100 → Tg (.tuple (ts.map .str))
structure Ob (K : PySem.W.Frag) (H : Hp) (x : V) (d : PyData) : Prop where
  dp : Dp K H x d
  tg : Tg d
theorem dp_strs {K : PySem.W.Frag} {H H' : Hp} : ∀ {xs : List V} {ts : List Str}, DpAll K H xs (ts.map PyData.str) → xs = ts.map V.str ∧ DpAll K H' (ts.map V.str) (ts.map PyData.str)
  | _, [], h => by cases h; exact ⟨rfl, .nil⟩
  | _, t :: ts, h => by
    cases h with
    | cons a b =>
      cases a
      obtain ⟨e, g⟩ := dp_strs (H' := H') (ts := ts) b
      subst e
      exact ⟨rfl, .cons (.str t) g⟩
theorem dp_strs' {K : PySem.W.Frag} {H : Hp} : ∀ ts : List Str, DpAll K H (ts.map V.str) (ts.map PyData.str)
  | [] => .nil
  | t :: ts => .cons (.str t) (dp_strs' ts)
theorem Ob.move {K : PySem.W.Frag} {H H' : Hp} {x : V} {d : PyData} (h : Ob K H x d) (f : ∀ p o, x = .ref p → H p = some o → (∀ ts : List Str, o = .lst (ts.map V.str) → H' p = some o) ∧ (∀ ts : List Str, o = .tup (ts.map V.str) → H' p = some o) ∧ (∀ ob u, o = .frz ob u → H' p = some o)) : Ob K H' x d := by
  obtain ⟨h, t⟩ := h
  cases t with
  | int q => cases h; exact ⟨.int _, .int q⟩
  | bl b => cases h; exact ⟨.bl _, .bl b⟩
  | non => cases h; exact ⟨.non, .non⟩
  | str q => cases h; exact ⟨.str _, .str q⟩
  | lst q l =>
    cases h with
    | lst s a =>
      obtain ⟨e, g⟩ := dp_strs (H' := H') a
      subst e
      refine ⟨.lst ?_ g, .lst q l⟩
      rcases s with (s | ⟨o, s⟩) | s
      · exact .inl (.inl ((f _ _ rfl s).1 _ rfl))
      · exact .inl (.inr ⟨o, (f _ _ rfl s).2.2 _ _ rfl⟩)
      · exact .inr s
  | tup q l =>
    cases h with
    | tup s a =>
      obtain ⟨e, g⟩ := dp_strs (H' := H') a
      subst e
      refine ⟨.tup ?_ g, .tup q l⟩
      rcases s with (s | ⟨o, s⟩) | s
      · exact .inl (.inl ((f _ _ rfl s).2.1 _ rfl))
      · exact .inl (.inr ⟨o, (f _ _ rfl s).2.2 _ _ rfl⟩)
      · exact .inr s
theorem Ob.keep {K : PySem.W.Frag} {H H' : Hp} {x : V} {d : PyData} (e : Same H H') (h : Ob K H x d) : Ob K H' x d :=
  h.move fun p o _ q => ⟨fun _ _ => e _ _ q, fun _ _ => e _ _ q, fun _ _ _ => e _ _ q⟩
theorem Ob.but {K : PySem.W.Frag} {H H' : Hp} {x : V} {d : PyData} {b : Addr} {n : Nat} (bag : Bag H b n) (e : But b H H') (h : Ob K H x d) : Ob K H' x d := by
  obtain ⟨c, i, k, m, z, ns, hb, _⟩ := bag
  refine h.move fun p o _ q => ?_
  by_cases pb : p = b
  · subst pb
    rw [hb] at q
    have q := Option.some.inj q
    subst q
    refine ⟨fun ts f => ?_, fun ts f => (by cases f), fun ob u f => (by cases f)⟩
    cases ts with
    | nil => simp at f
    | cons t ts => simp at f
  · exact ⟨fun _ _ => e _ _ pb q, fun _ _ => e _ _ pb q, fun _ _ _ => e _ _ pb q⟩
theorem tx_lay {t : Str} (h : Tx t) : PyData.leavesShort 13 (.str t) = true ∧ PyData.weight (.str t) ≤ 100 := by
  refine ⟨?_, h.len⟩
  show (t.cps.toList.all fun c => decide (c < 16 ^ 8)) = true
  rw [List.all_eq_true]
  intro c m
  have := h.asc c m
  exact decide_eq_true (by omega)
theorem strs_lay : ∀ {ts : List Str}, (∀ t ∈ ts, Tx t) → PyData.leavesShortAll 13 (ts.map .str) = true ∧ PyData.weightAll (ts.map .str) ≤ 101 * ts.length ∧ PyData.showableAll (ts.map .str) = true ∧ PyData.hasDictAll (ts.map .str) = false ∧ PyData.depthAll (ts.map .str) = 0 ∧ PyData.plainAll (ts.map .str) = true
  | [], _ => by simp [PyData.leavesShortAll, PyData.weightAll, PyData.showableAll, PyData.hasDictAll, PyData.depthAll, PyData.plainAll]
  | t :: ts, h => by
    have h1 := tx_lay (h t (by simp))
    have h2 := strs_lay (ts := ts) fun y m => h y (List.mem_cons_of_mem _ m)
    obtain ⟨a1, a2⟩ := h1
    obtain ⟨b1, b2, b3, b4, b5, b6⟩ := h2
    simp only [List.map_cons, PyData.leavesShortAll, PyData.weightAll, PyData.showableAll, PyData.hasDictAll, PyData.depthAll, PyData.plainAll, a1, b1, b3, b4, b5, b6, PyData.showable, PyData.hasDict, PyData.depth, PyData.plain, Bool.and_self, Bool.or_self, true_and, List.length_cons, and_true, Nat.max_self]
    omega
structure Shows (d : PyData) : Prop where
  sh : d.showable = true
  nd : d.hasDict = false
  dep : d.depth ≤ 60
  fit : d.shown.length ≤ sizeLine
theorem tg_shows {d : PyData} (t : Tg d) : Shows d := by
  cases t with
  | @int i h =>
    have hl : i.natAbs.log2 < 20 ∨ i = 0 := by
      by_cases z : i = 0
      · exact .inr z
      · exact .inl ((Nat.log2_lt (by omega)).mpr (by omega))
    refine ⟨decide_eq_true ?_, rfl, Nat.zero_le _, Nat.le_trans (PyData.shown_int_le (by omega)) (by decide)⟩
    rcases hl with z | z
    · omega
    · subst z; decide
  | bl b => exact ⟨rfl, rfl, Nat.zero_le _, by cases b <;> decide +kernel⟩
  | non => exact ⟨rfl, rfl, Nat.zero_le _, by decide +kernel⟩
  | str h =>
    have q := tx_lay h
    exact ⟨rfl, rfl, Nat.zero_le _, PyData.shown_fits (B := 13) (by decide) (by decide) q.1 (Nat.le_trans q.2 (by decide))⟩
  | lst h l =>
    obtain ⟨b1, b2, b3, b4, b5, b6⟩ := strs_lay h
    exact ⟨b3, b4, by simp only [PyData.depth, b5]; decide, PyData.shown_fits (B := 13) (by decide) (by decide) b1 (Nat.le_trans b2 (by omega))⟩
  | tup h l =>
    obtain ⟨b1, b2, b3, b4, b5, b6⟩ := strs_lay h
    exact ⟨b3, b4, by simp only [PyData.depth, b5]; decide, PyData.shown_fits (B := 13) (by decide) (by decide) b1 (Nat.le_trans b2 (by omega))⟩
/-- a number's text -/
def IsN (x : V) : Prop := ∃ ds, Num ds ∧ x = .str (numS ds)
/-- what isinstance asks of a thing: a text, or no text -/
theorem tys_of {K : PySem.W.Frag} {H : Hp} {x : V} {d : PyData} (h : Ob K H x d) : ∃ (n : String) (b : Bool), TyX K H x (.type n) ∧ PySem.W.kitOne K (.type n) (.type "str") = some b ∧ (b = true → ∃ t, x = .str t ∧ d = .str t ∧ Tx t) ∧ (b = false → ¬ IsN x) := by
  obtain ⟨h, t⟩ := h
  cases t with
  | int _ => cases h; exact ⟨"int", false, .base (.int _), kit_ty (by decide +kernel), (fun z => by cases z), fun _ ⟨ds, _, e⟩ => by cases e⟩
  | bl b => cases h; exact ⟨"bool", false, .base (.bl _), kit_ty (by decide +kernel), (fun z => by cases z), fun _ ⟨ds, _, e⟩ => by cases e⟩
  | non => cases h; exact ⟨"NoneType", false, .base .non, kit_ty (by decide +kernel), (fun z => by cases z), fun _ ⟨ds, _, e⟩ => by cases e⟩
  | str q => cases h; exact ⟨"str", true, .base (.str _), kit_ty (by decide +kernel), fun _ => ⟨_, rfl, rfl, q⟩, fun z => by cases z⟩
  | lst _ _ =>
    cases h with
    | lst q a =>
      rcases q with (q | ⟨o, q⟩) | q
      · exact ⟨"list", false, .base (.lst q), kit_ty (by decide +kernel), (fun z => by cases z), fun _ ⟨ds, _, e⟩ => by cases e⟩
      · exact ⟨"list", false, .base (.frz q), kit_ty (by decide +kernel), (fun z => by cases z), fun _ ⟨ds, _, e⟩ => by cases e⟩
      · obtain ⟨o, xs, n, e, c, _⟩ := q
        exact ⟨"list", false, .kList e c, kit_ty (by decide +kernel), (fun z => by cases z), fun _ ⟨ds, _, e⟩ => by cases e⟩
  | tup _ _ =>
    cases h with
    | tup q a =>
      rcases q with (q | ⟨o, q⟩) | q
      · exact ⟨"tuple", false, .base (.tup q), kit_ty (by decide +kernel), (fun z => by cases z), fun _ ⟨ds, _, e⟩ => by cases e⟩
      · exact ⟨"tuple", false, .fTuple q, kit_ty (by decide +kernel), (fun z => by cases z), fun _ ⟨ds, _, e⟩ => by cases e⟩
      · obtain ⟨o, xs, n, e, c, _⟩ := q
        exact ⟨"tuple", false, .kTuple e c, kit_ty (by decide +kernel), (fun z => by cases z), fun _ ⟨ds, _, e⟩ => by cases e⟩
theorem ob_num {K : PySem.W.Frag} {H : Hp} {ds : List Nat} (N : Num ds) : Ob K H (.str (numS ds)) (.str (numS ds)) :=
  ⟨.str _, .str ⟨by rw [numS_len]; have := N.len; omega, fun c m => by
    have m : c ∈ codes ds := m
    obtain ⟨d, md, rfl⟩ := List.mem_map.mp m
    have := (N.dig d md).2
    omega⟩⟩
theorem isN_str {t : Str} : IsN (.str t) ↔ IsNum t := ⟨fun ⟨ds, N, e⟩ => ⟨ds, N, V.str.inj e⟩, fun ⟨ds, N, e⟩ => ⟨ds, N, by rw [e]⟩⟩
theorem fresh_but {b p : Addr} {H H' : Hp} {n : Nat} (bag : Bag H b n) (e : But b H H') (f : H' p = none) : H p = none := by
  cases q : H p with
  | none => rfl
  | some o =>
    by_cases pb : p = b
    · obtain ⟨c, x, k, m, z, ns, h, _⟩ := bag
      obtain ⟨x', k', m', z', g⟩ := e.cel c ⟨x, k, m, z, h⟩
      rw [pb, g] at f
      cases f
    · rw [e.keep p o pb q] at f
      cases f
end Wm

/-! sum of a tuple of ints. -/
namespace Hf
open PySem PySem.Spec PyProof.Rows L2
section
variable {prog : Program} {w : World} {A : Around} {E : Value → Shared → Prop} {s : Shared} {l : Addr} {its : List Value} {ns : List Int} {Q : Value → Shared → Prop}
theorem sum_rawT (hh : A.handled = none) (hl : s.heap.IsTuple l its.toArray) (hi : IntsAre its ns)
    (h : ∀ h' tk t', (∀ b o, s.heap.get? b = some o → h'.get? b = some o) → Q (.int ns.sum t') { s with heap := h', toks := tk }) : wpAny (model prog w) A (call (.builtin "sum") [.ref l]) Q E s := by
  obtain ⟨xs, e⟩ := hi.allInts.items
  have hn : numsOf (intItems xs).toList = ns := by rw [← e]; exact hi.numsOf
  rw [nums_intItems] at hn
  rw [e] at hl
  refine PySem.W.ktm_sumG hh hl fun h' tk t' hk => ?_
  have := h h' tk t' hk
  rw [preSum_eq, List.take_of_length_le (by simp), hn]; exact this
end
section
variable {X : Cx}
def rSumA (K : PySem.W.Frag) : List V → Hp → VK → Prop := fun vs H Q => ∃ (a : Addr) (ns : List Int), vs = [V.ref a] ∧ (SqL K H a (ns.map V.int) ∨ SqT K H a (ns.map V.int)) ∧ Q (.int ns.sum) H
theorem cr_sumA (hc : X.calm = true) : CallR X (.builtin "sum") (rSumA X.K) := by
  intro pins s σ H vs us Q I r h
  obtain ⟨a, ns, rfl, hs, q⟩ := h
  rcases hs with hs | hs
  · obtain ⟨its, rv, hl, _⟩ := I.list hs
    rw [Vals.ref1 r]
    exact sum_raw (I.ok.hd hc) hl.isList rv.ints fun h' tk t' hk => ⟨.int _, H, I.kept hk, ⟨_, rfl⟩, q⟩
  · obtain ⟨its, rv, hl, _⟩ := I.tuple hs
    rw [Vals.ref1 r]
    exact sum_rawT (I.ok.hd hc) (show s.heap.IsTuple a its.toArray from hl) rv.ints fun h' tk t' hk => ⟨.int _, H, I.kept hk, ⟨_, rfl⟩, q⟩
end
end Hf

/-! enumerate of a tuple, as a thing that a for walks. -/
namespace Es
open PySem PySem.Spec PyProof.Rows L2
theorem meets_ent (t : Addr) (its : Array Value) (m : Nat) (dd : Option Addr) (slo : Array (Option Value)) :
    Meets (Builtin.«enumerate.__new__» ⟨[.type "enumerate", .ref t], []⟩) (fun _ R s => s.heap.get? t = some { cls := .type "tuple", dict := dd, data := .seq its m, slots := slo } ∧
      R (.ok (.ret (.ref (s.heap.push { cls := .type "tuple_iterator", data := .fields #[.ref t, .int 0 0] }).objs.size))) { s with heap := (s.heap.push { cls := .type "tuple_iterator", data := .fields #[.ref t, .int 0 0] }).push { cls := .type "enumerate", data := .fields #[.none, .bool false, .ref s.heap.objs.size, rawInt 0, .none, .none] } }) :=
  .of_wp fun prog w A R s h => by
    obtain ⟨hp, gn, dr, tk, os⟩ := s
    obtain ⟨ht, h⟩ := h
    have hsub := sub_enumerate
    have hT : Heap.IsTuple (Shared.heap ⟨hp, gn, dr, tk, os⟩) t its := ⟨_, ht, rfl, m, rfl⟩
    wp_walk using AutoSeq1.wpAny_loadPart' ht
    refine wpAny_stack_any fun st => wpAny_pure ?_
    split
    · rename_i c _ _ _ _ _
      cases (c == Value.type "enumerate")
      · wp_walk using AutoSeq1.wpAny_loadPart' ht, wpAny_pyIter_tuple hT
        exact ⟨_, rfl, h⟩
      · wp_walk using AutoSeq1.wpAny_loadPart' ht, wpAny_pyIter_tuple hT
        exact ⟨_, rfl, h⟩
    · wp_walk using AutoSeq1.wpAny_loadPart' ht, wpAny_pyIter_tuple hT
      exact ⟨_, rfl, h⟩
section
variable {prog : Program} {w : World} {A : Around} {E : Value → Shared → Prop} {s : Shared}
theorem call_ent {t : Addr} {its : Array Value} {Q : Value → Shared → Prop} (ht : s.heap.IsTuple t its)
    (q : ∀ g, IsEnum g (s.heap.objs.size + 1) s.heap.objs.size 0 .none → g.IsTupleIter s.heap.objs.size t 0 → (∀ b o, s.heap.get? b = some o → g.get? b = some o) → Q (.ref (s.heap.objs.size + 1)) { s with heap := g }) :
    wpAny (model prog w) A (call (.type "enumerate") [.ref t]) Q E s := by
  obtain ⟨⟨tc, td, tdat, tsl⟩, h0, h1, m, h2⟩ := ht
  simp only at h1 h2
  subst h1 h2
  refine callType_new F.called_enumerate (by decide) (F.typeCall_enumerate_1 _) (F.newCall_enumerate_1 _) (fun ob => F.args_object_init_2 ob _) F.entry_enumerate_new (meets_ent t its m td tsl) ⟨h0, ?_⟩
  have hz : (s.heap.push { cls := .type "tuple_iterator", data := .fields #[.ref t, .int 0 0] }).objs.size = s.heap.objs.size + 1 := Heap.size_push ..
  have er : IsEnum ((s.heap.push { cls := .type "tuple_iterator", data := .fields #[.ref t, .int 0 0] }).push { cls := .type "enumerate", data := .fields #[.none, .bool false, .ref s.heap.objs.size, rawInt 0, .none, .none] }) (s.heap.objs.size + 1) s.heap.objs.size 0 .none := by
    rw [← hz]
    exact Heap.get?_push_size _ rfl
  show _ ∧ _
  rw [hz]
  exact ⟨⟨_, er, rfl⟩, q _ er ⟨_, Heap.get?_push_of_some _ (Heap.get?_push_size _ rfl), rfl, rfl⟩ fun b o x => Heap.get?_push_of_some _ (Heap.get?_push_of_some _ x)⟩
theorem tup_end {e it t : Addr} {i : Nat} {its : Array Value} {old : Value} {k : Int} {Q : Option Value → Shared → Prop} (hh : A.handled = none) (er : IsEnum s.heap e it k old) (ti : s.heap.IsTupleIter it t i) (ht : s.heap.IsTuple t its) (hx : its[i]? = none)
    (q : ∀ g, Heap.ExtBut it s.heap g → Q none { s with heap := g }) : wpAny (model prog w) A (pyNext (.ref e)) Q E s := by
  have te : s.TypeIs (.ref e) "enumerate" := ⟨_, er, rfl⟩
  unfold pyNext
  refine wpAny_bind (wpAny_attempt (wpAny_callSpecial?_slot (name := Str.ofString "__next__") te F.slot_enumerate_next (wpAny_call_entry F.slot_enumerate_next te F.entry_enumerate_next ?_ (F.args_enumerate_next_1 _))))
  show wpAny _ _ (field (.ref e) 2 >>= _) _ _ _
  refine wpAny_bind (wpAny_field er rfl (x := .ref it) rfl ?_)
  refine wpAny_bind (wpAny_nextOf_tuple_end (show A.in1.handled = none from hh) ti ht hx fun g x k1 ⟨o, k2, k3⟩ => ?_)
  refine wpAny_bind (wpAny_isInstance (T := "StopIteration") (b := true) ⟨o, k2, k3⟩ isSubtype_stop ?_)
  exact wpAny_pure (q _ k1)
end
def Iten (K : PySem.W.Frag) (a : Addr) : It :=
  ⟨fun i H => ∃ (xs : List V) (x : V), SqT K H a xs ∧ xs[i]? = some x, fun i H v H' => ∃ T x, v = .ref T ∧ H T = none ∧ H' = upd H T (.tup [.int (i : Nat), x]) ∧ ∀ xs, SqT K H a xs → xs[i]? = some x, fun i H => ∃ xs : List V, SqT K H a xs ∧ xs.length ≤ i⟩
theorem turn_ent {P : Program} {w : World} {K : PySem.W.Frag} {elts : List Expr} {kk : Nat} {tpos : Pos} (a e it : Addr) (nei : e ≠ it) (nea : e ≠ a) (nai : a ≠ it) :
    Turn P w K (.Tuple elts kk tpos) (Iten K a) [e, it] e (fun i h => (∃ old, IsEnum h e it ((i : Nat) : Int) old) ∧ h.IsTupleIter it a i) where
  mem := by simp
  obj := fun i h st b hb => by
    obtain ⟨⟨old, er⟩, o, ho, _, hd⟩ := st
    have hb' : b = e ∨ b = it := by simpa using hb
    rcases hb' with z | z
    · rw [z]
      exact ⟨_, er, fun v q => nomatch q⟩
    · rw [z]
      exact ⟨o, ho, fun v q => by rw [hd] at q; cases q⟩
  keep := fun i h g st k => by
    obtain ⟨⟨old, er⟩, ti⟩ := st
    exact ⟨⟨old, k e (by simp) _ er⟩, ti.at fun o q => k it (by simp) o q⟩
  item := by
    intro X hP hw hK hc i pins s σ H E I hf st hg
    subst hP hw hK
    obtain ⟨⟨old, er⟩, ti⟩ := st
    obtain ⟨xs, x, hq, hx⟩ := hg
    obtain ⟨its, rv, p, _⟩ := I.tuple hq
    obtain ⟨u, hu, ru⟩ := rv.get hx
    have el : e < s.heap.objs.size := Heap.lt_size er
    have il : it < s.heap.objs.size := by
      obtain ⟨_, q, _⟩ := id ti
      exact Heap.lt_size q
    have hlt : i < its.toArray.size := by
      have q := (List.getElem?_eq_some_iff.mp hu).1
      simpa using q
    have hd : X.A.in1.handled = none := I.ok.hd hc
    refine wpAny_pyNext_enum_itemD (Draws.tuple hd it a nai its.toArray) er ⟨ti, p⟩ hlt nei (by simp [nei, nea]) fun y g tk hy eo st2 hT hsz hk => ?_
    have ey : y = u := by
      rw [show its.toArray[i]? = some u by simpa using hu] at hy
      exact (Option.some.inj hy).symm
    subst ey
    refine ⟨_, rfl, wpAny_letOwnedTupleGo_enum (s := { s with heap := g, toks := tk + 1 }) eo fun g2 er2 sb => ?_⟩
    have hT2 : g2.get? s.heap.objs.size = some { cls := .type "tuple", data := .seq #[.int i tk, y] } := (sb.2 _ (Nat.ne_of_gt el)).trans hT
    have new : ObjOk X.prog X.w (upd H s.heap.objs.size (.tup [.int (i : Nat), x])) g2 s.heap.objs.size (.tup [.int (i : Nat), x]) := ⟨by show 2 ≤ sizeLine; decide, [.int i tk, y], .cons ⟨_, rfl⟩ (.cons ru .nil), ⟨_, hT2, rfl, _, rfl⟩⟩
    have I1 : Inv X pins σ (upd H s.heap.objs.size (.tup [.int (i : Nat), x])) { s with heap := g2, toks := tk + 1 } := I.turnedNew (ch := [e, it]) (fun b ob hb q => (sb.2 b (fun z => hb (by simp [z]))).trans (hk b ob (fun z => hb (by simp [z])) (fun z => hb (by simp [z])) q)) hf (Nat.le_refl _) new
    refine ⟨.ref s.heap.objs.size, _, I1, rfl, ⟨_, x, rfl, I.hok.fresh (Nat.le_refl _), rfl, fun ys hy => by rw [I.tuple_inj hy hq]; exact hx⟩, ⟨⟨y, ?_⟩, st2.1.at fun o q => (sb.2 it nei.symm).trans q⟩, fun b hb => ?_⟩
    · rw [show ((i + 1 : Nat) : Int) = (i : Int) + 1 by omega]
      exact er2
    · have lb : b < s.heap.objs.size := by
        have hb' : b = e ∨ b = it := by simpa using hb
        rcases hb' with z | z
        · rw [z]; exact el
        · rw [z]; exact il
      rw [upd_ne (Nat.ne_of_lt lb)]
      exact (hf b hb).1
  done := by
    intro X hP hw hK hc i pins s σ H E I hf st hg
    subst hP hw hK
    obtain ⟨⟨old, er⟩, ti⟩ := st
    obtain ⟨xs, hq, hx⟩ := hg
    obtain ⟨its, rv, p, _⟩ := I.tuple hq
    have hl := rv.length
    exact tup_end (I.ok.hd hc) er ti p (by simp; omega) fun g kg => ⟨rfl, I.turnedL (t' := s.toks) (ch := [e, it]) (fun b o hb q => kg b o (fun z => hb (by simp [z])) q) hf⟩
  self := fun A i s Q E st h => let ⟨⟨_, er⟩, _⟩ := st; wpAny_pyIter_enum er h
def iEnt (K : PySem.W.Frag) (ta : TA) : TI := fun σ H R => ta σ H fun vs H1 => ∃ a xs, vs = [.ref a] ∧ SqT K H1 a xs ∧ R (Iten K a) H1
theorem pi_ent {X : Cx} {e : Expr} {ta : TA} {p pos tpos : Pos} {elts : List Expr} {kk : Nat} (hg : Gl X "enumerate") (hm : X.mg "enumerate" = none) (ha : PA X [e] ta) (hs : starEach [e] X.env = [(false, eval e X.env)] := by rfl) :
    PI X (.Tuple elts kk tpos) (.Call (.Name "enumerate" p) [e] [] pos) (iEnt X.K ta) := by
  refine ⟨fun pins s σ H R I h => ?_⟩
  refine Call_ (ld_blt I hg hm boot_enumerate (PyProof.Rows.callWith_type1 (thn (ha.run pos pins s σ H _ I h) fun us s1 ⟨vs, H1, I1, r1, q1⟩ => ?_) hs rfl))
  obtain ⟨a, xs, ev, hq, q⟩ := q1
  subst ev
  cases r1 with
  | cons r rr =>
    cases rr
    cases r
    obtain ⟨its, rv, pt, _⟩ := I1.tuple hq
    obtain ⟨ot, hot, _⟩ := id pt
    have al : a < s1.heap.objs.size := Heap.lt_size hot
    refine call_ent (show s1.heap.IsTuple a its.toArray from pt) fun g er ti kg => wpAny_pyIter_enum er ?_
    have I2 : Inv X pins σ H1 { s1 with heap := g } := I1.kept (t' := s1.toks) kg
    refine ⟨s1.heap.objs.size + 1, [s1.heap.objs.size + 1, s1.heap.objs.size], _, _, H1, rfl, I2, turn_ent a (s1.heap.objs.size + 1) s1.heap.objs.size (Nat.succ_ne_self _) (Nat.ne_of_gt (Nat.lt_succ_of_lt al)) (Nat.ne_of_lt al), ⟨⟨.none, er⟩, ti⟩, fun b hb => ?_, q⟩
    have hb' : b = s1.heap.objs.size + 1 ∨ b = s1.heap.objs.size := by simpa using hb
    have le : s1.heap.objs.size ≤ b := by
      rcases hb' with z | z
      · rw [z]; exact Nat.le_add_right _ _
      · rw [z]; exact Nat.le_refl _
    exact I1.fpOk le (I1.hok.fresh le)
theorem walk_ent {K : PySem.W.Frag} {a : Addr} {xs : List V} : Walk (Iten K a) xs.length (fun H => SqT K H a xs) (YPair (fun i => some (.int (i : Nat))) (fun i => xs[i]?)) := by
  refine ⟨fun i _ hi q => ⟨xs, xs[i], q, by simp [hi]⟩, fun _ q => ⟨xs, q, Nat.le_refl _⟩, fun i H v H' _ q y => ?_⟩
  obtain ⟨T, x, y1, y2, y3, y4⟩ := y
  exact ⟨T, .int (i : Nat), x, y1, y2, y3, rfl, y4 xs q⟩
end Es

/-! xs.extend(t), t a tuple; comprehensions of two clauses by walks. -/
namespace Et
open PySem PySem.Spec PyProof.Rows L2
theorem ext_meets (l : Addr) (us : Array Value) (n : Nat) (b : Addr) (vs : Array Value) (m : Nat) (dd : Option Addr) (sl : Array (Option Value)) (h0 : ¬(!us.isEmpty && Builtin.List.listTooLong (us.size + vs.size)) = true) (h1 : us.size ≤ sizeLine) (h2 : us.size + vs.size ≤ sizeLine + 1) :
    Meets (Builtin.«list.extend» ⟨[.ref l, .ref b], []⟩) (fun _ R s => s.heap.get? l = some { cls := .type "list", dict := none, data := .seq us n, slots := #[] } ∧ s.heap.get? b = some { cls := .type "tuple", dict := dd, data := .seq vs m, slots := sl } ∧ R (.ok (.ret Value.none)) { s with heap := s.heap.update l (Obj.mapSeq fun x => x ++ vs), toks := s.toks }) :=
  .of_wp fun prog w A R s h => by
    obtain ⟨hp, g, d, tk, os⟩ := s
    obtain ⟨hl, hb, h⟩ := h
    have f1 := AutoSeq1.idx_int
    have f2 := AutoSeq1.sub_tuple_tuple
    have f3 := AutoSeq1.sub_list_list
    have f4 := AutoSeq1.sub_tuple_list
    have f5 := AutoSeq1.sub_list_tuple
    have hz' : (us ++ vs).size ≤ sizeLine + 1 := by
      rw [Array.size_append]
      exact h2
    wp_walk using (wpAny_updateSeq hl rfl (hz := h1) (_hz' := hz')), AutoSeq1.wpAny_loadPart' hl, AutoSeq1.wpAny_loadPart' hb
    exact ⟨_, rfl, h⟩
section
variable {X : Cx}
def rExtT (K : PySem.W.Frag) : V → List V → Hp → VK → Prop := fun x vs H Q => ∃ l b xs zs, x = .ref l ∧ vs = [.ref b] ∧ H l = some (.lst xs) ∧ SqT K H b zs ∧ xs.length + zs.length ≤ sizeLine ∧ Q .non (upd H l (.lst (xs ++ zs)))
theorem mt_extT : MtM X "list.extend" (rExtT X.K) := by
  intro pins s σ H x vs v us Q I rx rv h
  obtain ⟨l, b, xs, zs, rfl, rfl, hH, hB, hz, q⟩ := h
  cases rx
  obtain ⟨u, rfl, ru⟩ := rv.one
  cases ru
  obtain ⟨z, its, n, r, hl, e⟩ := I.lstM hH
  obtain ⟨its2, r2, p2, _⟩ := I.tuple hB
  obtain ⟨⟨c2, d2, a2, s2⟩, e2, k1, m, k2⟩ := p2
  simp only at k1 k2
  subst k1 k2
  have hl2 := r2.length
  have hsz : its.toArray.size + its2.toArray.size ≤ sizeLine := by
    rw [List.size_toArray, List.size_toArray]
    omega
  have hlong : ¬ (!its.toArray.isEmpty && Builtin.List.listTooLong (its.toArray.size + its2.toArray.size)) = true := by
    rw [notLongL hsz, Bool.and_false]
    exact Bool.false_ne_true
  refine call_meets F.slot_list_extend ⟨_, e, rfl⟩ F.entry_list_extend (F.args_list_extend_2 _ _) (ext_meets l its.toArray n b its2.toArray m d2 s2 hlong (by rw [List.size_toArray]; omega) (by omega)) ⟨e, e2, ?_⟩
  refine ⟨.non, _, I.lset (its' := its ++ its2) hH e (by simp) (r.append r2) ?_, rfl, q⟩
  rw [List.length_append]
  omega
end
/-- the outer clause of a comprehension of two -/
theorem out_it {J : It} {n : Nat} {G : Hp → Prop} {Y : Nat → Hp → V → Hp → Prop} (w : Walk J n G Y) {g : TG} {tt : TT} {B : (Hp → Prop) → L2.St → Hp → Prop} {vs : List Nat} {σ : L2.St} {H1 : Hp} {D : Addr} {Qd : Hp → Prop} (Pv : Nat → Hp → Prop) (h0 : Pv 0 (upd H1 D (.lst []))) (hG : ∀ i H, i ≤ n → Pv i H → G H)
    (hs : ∀ i x H H', i < n → Pv i H → Y i H x H' → g x (wipe σ vs) H' fun σ2 H2 => wipe σ2 vs = wipe σ vs ∧ tt σ2 H2 fun b H3 => if b = true then B (Pv (i + 1)) σ2 H3 else Pv (i + 1) H3) (hd : ∀ H, Pv n H → Qd H) :
    ∃ W : Nat → Nat → Hp → Prop, (∃ m, W 0 m (upd H1 D (.lst []))) ∧ ∀ i m H, W i m H →
      (J.stop i H ∧ Qd H) ∨ (J.go i H ∧ ∃ Nx : Hp → Prop, (∀ H', Nx H' → ∃ m', m' < m ∧ W (i + 1) m' H') ∧ ∀ x H', J.yld i H x H' → g x (wipe σ vs) H' fun σ2 H2 => wipe σ2 vs = wipe σ vs ∧ tt σ2 H2 fun b H3 => if b = true then B Nx σ2 H3 else Nx H3) := by
  refine ⟨fun i m H => m = n - i ∧ i ≤ n ∧ Pv i H, ⟨n, by simp, Nat.zero_le _, h0⟩, ?_⟩
  rintro i m H ⟨rfl, hi, p⟩
  have q := hG i H hi p
  by_cases lt : i < n
  · exact .inr ⟨w.goes i H lt q, Pv (i + 1), fun H' p' => ⟨n - (i + 1), by omega, rfl, lt, p'⟩, fun x H' y => hs i x H H' lt p (w.yields i H x H' lt q y)⟩
  · have e : i = n := by omega
    subst e
    exact .inl ⟨w.stops H q, hd H p⟩
/-- the inner clause -/
theorem in_it {J : It} {n : Nat} {G : Hp → Prop} {Y : Nat → Hp → V → Hp → Prop} (w : Walk J n G Y) {g : TG} {tt : TT} {te : TE} {vs : List Nat} {σ : L2.St} {H1 : Hp} {D : Addr} {Qd : Hp → Prop} (Pv : Nat → Hp → Prop) (h0 : Pv 0 H1) (hG : ∀ i H, i ≤ n → Pv i H → G H)
    (hs : ∀ i x H H', i < n → Pv i H → Y i H x H' → g x (wipe σ vs) H' fun σ2 H2 => wipe σ2 vs = wipe σ vs ∧ tt σ2 H2 fun b H3 =>
      if b = true then te σ2 H3 fun y H4 => ∃ acc, H4 D = some (.lst acc) ∧ acc.length < sizeLine ∧ Pv (i + 1) (upd H4 D (.lst (acc ++ [y]))) else Pv (i + 1) H3) (hd : ∀ H, Pv n H → Qd H) :
    ∃ W : Nat → Nat → Hp → Prop, (∃ m, W 0 m H1) ∧ ∀ i m H, W i m H →
      (J.stop i H ∧ Qd H) ∨ (J.go i H ∧ ∃ Nx : Hp → Prop, (∀ H', Nx H' → ∃ m', m' < m ∧ W (i + 1) m' H') ∧ ∀ x H', J.yld i H x H' → g x (wipe σ vs) H' fun σ2 H2 => wipe σ2 vs = wipe σ vs ∧ tt σ2 H2 fun b H3 =>
        if b = true then te σ2 H3 fun y H4 => ∃ acc, H4 D = some (.lst acc) ∧ acc.length < sizeLine ∧ Nx (upd H4 D (.lst (acc ++ [y]))) else Nx H3) := by
  refine ⟨fun i m H => m = n - i ∧ i ≤ n ∧ Pv i H, ⟨n, by simp, Nat.zero_le _, h0⟩, ?_⟩
  rintro i m H ⟨rfl, hi, p⟩
  have q := hG i H hi p
  by_cases lt : i < n
  · refine .inr ⟨w.goes i H lt q, Pv (i + 1), fun H' p' => ⟨n - (i + 1), by omega, rfl, lt, p'⟩, fun x H' y => hs i x H H' lt p (w.yields i H x H' lt q y)⟩
  · have e : i = n := by omega
    subst e
    exact .inl ⟨w.stops H q, hd H p⟩
end Et

/-! Data of ints, texts and tuples of such; what keeps them. -/
namespace Dv
open PySem L2 Wm
mutual
inductive Dt (K : PySem.W.Frag) (H : Hp) : V → PyData → Prop
  | int (i : Int) : Dt K H (.int i) (.int i)
  | str (x : Str) : Dt K H (.str x) (.str x)
  | tup {a : Addr} {xs : List V} {ds : List PyData} : SqT K H a xs → Dts K H xs ds → Dt K H (.ref a) (.tuple ds)
inductive Dts (K : PySem.W.Frag) (H : Hp) : List V → List PyData → Prop
  | nil : Dts K H [] []
  | cons {v : V} {vs : List V} {d : PyData} {ds : List PyData} : Dt K H v d → Dts K H vs ds → Dts K H (v :: vs) (d :: ds)
end
/-- tuples stand -/
def Kt (K : PySem.W.Frag) (H H' : Hp) : Prop := ∀ a xs, SqT K H a xs → SqT K H' a xs
section
variable {K : PySem.W.Frag} {H H' H2 : Hp}
theorem Kt.refl : Kt K H H := fun _ _ h => h
theorem Kt.trans (a : Kt K H H') (b : Kt K H' H2) : Kt K H H2 := fun p xs h => b p xs (a p xs h)
theorem Kt.same (s : Same H H') : Kt K H H' := fun _ _ h => sameT s h
/-- a store at what is no tuple -/
theorem Kt.set {p : Addr} {o u : HO} (h : H p = some u) (n1 : ∀ xs, u ≠ .tup xs) (n2 : ∀ ob xs, u ≠ .frz ob (.tup xs)) : Kt K H (upd H p o) := fun a xs q => by
  rcases q with (q | ⟨ob, q⟩) | q
  · exact .inl (.inl (by rw [upd_ne (fun e => by subst e; rw [h] at q; exact n1 _ (Option.some.inj q))]; exact q))
  · exact .inl (.inr ⟨ob, by rw [upd_ne (fun e => by subst e; rw [h] at q; exact n2 _ _ (Option.some.inj q))]; exact q⟩)
  · exact .inr q
theorem Kt.lst {p : Addr} {o : HO} {xs : List V} (h : H p = some (.lst xs)) : Kt K H (upd H p o) := Kt.set h (fun _ q => by cases q) (fun _ _ q => by cases q)
theorem Kt.new {p : Addr} {o : HO} (h : H p = none) : Kt K H (upd H p o) := Kt.same (same_new h)
mutual
theorem Dt.keep (k : Kt K H H') : ∀ (d : PyData) (v : V), Dt K H v d → Dt K H' v d
  | .int _, _, h => by cases h; exact .int _
  | .str _, _, h => by cases h; exact .str _
  | .tuple ds, _, h => by
    cases h with
    | tup a b => exact .tup (k _ _ a) (Dts.keep k ds _ b)
  | .none, _, h => by cases h
  | .bool _, _, h => by cases h
  | .list _, _, h => by cases h
  | .dict _, _, h => by cases h
theorem Dts.keep (k : Kt K H H') : ∀ (ds : List PyData) (vs : List V), Dts K H vs ds → Dts K H' vs ds
  | [], _, h => by cases h; exact .nil
  | d :: ds, _, h => by
    cases h with
    | cons a b => exact .cons (Dt.keep k d _ a) (Dts.keep k ds _ b)
end
mutual
theorem Dt.dp : ∀ (d : PyData) (v : V), Dt K H v d → Dp K H v d
  | .int _, _, h => by cases h; exact .int _
  | .str _, _, h => by cases h; exact .str _
  | .tuple ds, _, h => by
    cases h with
    | tup a b => exact .tup a (Dts.dp ds _ b)
  | .none, _, h => by cases h
  | .bool _, _, h => by cases h
  | .list _, _, h => by cases h
  | .dict _, _, h => by cases h
theorem Dts.dp : ∀ (ds : List PyData) (vs : List V), Dts K H vs ds → DpAll K H vs ds
  | [], _, h => by cases h; exact .nil
  | d :: ds, _, h => by
    cases h with
    | cons a b => exact .cons (Dt.dp d _ a) (Dts.dp ds _ b)
end
theorem Dt.k {d : PyData} {v : V} (h : Dt K H v d) (k : Kt K H H') : Dt K H' v d := Dt.keep k _ _ h
theorem Dts.k {ds : List PyData} {vs : List V} (h : Dts K H vs ds) (k : Kt K H H') : Dts K H' vs ds := Dts.keep k _ _ h
theorem Dt.toDp {d : PyData} {v : V} (h : Dt K H v d) : Dp K H v d := Dt.dp _ _ h
theorem Dts.toDp {ds : List PyData} {vs : List V} (h : Dts K H vs ds) : DpAll K H vs ds := Dts.dp _ _ h
theorem Dt.inv {ds : List PyData} {v : V} (h : Dt K H v (.tuple ds)) : ∃ p xs, v = .ref p ∧ SqT K H p xs ∧ Dts K H xs ds := by
  cases h with
  | tup a b => exact ⟨_, _, rfl, a, b⟩
theorem Dt.str_inv {x : Str} {v : V} (h : Dt K H v (.str x)) : v = .str x := by cases h; rfl
theorem Dt.int_inv {i : Int} {v : V} (h : Dt K H v (.int i)) : v = .int i := by cases h; rfl
theorem Dts.len {ds : List PyData} {vs : List V} (h : Dts K H vs ds) : vs.length = ds.length := by
  induction ds generalizing vs with
  | nil => cases h; rfl
  | cons d ds ih =>
    cases h with
    | cons a b => rw [List.length_cons, List.length_cons, ih b]
theorem Dts.at {i : Nat} {ds : List PyData} {vs : List V} {v : V} (h : Dts K H vs ds) (g : vs[i]? = some v) : ∃ d, ds[i]? = some d ∧ Dt K H v d := by
  induction ds generalizing vs i with
  | nil =>
    cases h
    simp at g
  | cons d ds ih =>
    cases h with
    | cons a b =>
      cases i with
      | zero =>
        simp at g
        subst g
        exact ⟨d, rfl, a⟩
      | succ i => exact ih b (by simpa using g)
theorem Dts.get {i : Nat} {ds : List PyData} {vs : List V} {d : PyData} (h : Dts K H vs ds) (g : ds[i]? = some d) : ∃ v, vs[i]? = some v ∧ Dt K H v d := by
  have li := (List.getElem?_eq_some_iff.mp g).1
  obtain ⟨v, e⟩ : ∃ v, vs[i]? = some v := ⟨_, List.getElem?_eq_getElem (by rw [h.len]; exact li)⟩
  obtain ⟨d2, e2, a⟩ := h.at e
  rw [g] at e2
  cases e2
  exact ⟨v, e, a⟩
theorem Dts.app {ds es : List PyData} {vs ws : List V} (h : Dts K H vs ds) (g : Dts K H ws es) : Dts K H (vs ++ ws) (ds ++ es) := by
  induction ds generalizing vs with
  | nil => cases h; exact g
  | cons d ds ih =>
    cases h with
    | cons a b => exact .cons a (ih b)
theorem Dts.snoc {ds : List PyData} {d : PyData} {vs : List V} {v : V} (h : Dts K H vs ds) (g : Dt K H v d) : Dts K H (vs ++ [v]) (ds ++ [d]) := h.app (.cons g .nil)
theorem Dts.take {ds : List PyData} {vs : List V} (h : Dts K H vs ds) : ∀ n, Dts K H (vs.take n) (ds.take n) := by
  induction ds generalizing vs with
  | nil => cases h; intro n; simp; exact .nil
  | cons d ds ih =>
    cases h with
    | cons a b =>
      intro n
      cases n with
      | zero => exact .nil
      | succ n => exact .cons a (ih b n)
theorem Dts.drop {ds : List PyData} {vs : List V} (h : Dts K H vs ds) : ∀ n, Dts K H (vs.drop n) (ds.drop n) := by
  induction ds generalizing vs with
  | nil => cases h; intro n; simp; exact .nil
  | cons d ds ih =>
    cases h with
    | cons a b =>
      intro n
      cases n with
      | zero => exact .cons a b
      | succ n => exact ih b n
theorem dts_str : ∀ ss : List Str, Dts K H (ss.map V.str) (ss.map PyData.str)
  | [] => .nil
  | s :: ss => .cons (.str s) (dts_str ss)
theorem dts_str_inv {ss : List Str} {vs : List V} (h : Dts K H vs (ss.map PyData.str)) : vs = ss.map V.str := by
  induction ss generalizing vs with
  | nil => cases h; rfl
  | cons s ss ih =>
    cases h with
    | cons a b => rw [a.str_inv, ih b]; rfl
theorem dts_int : ∀ ns : List Int, Dts K H (ns.map V.int) (ns.map PyData.int)
  | [] => .nil
  | s :: ss => .cons (.int s) (dts_int ss)
theorem dts_int_inv {ns : List Int} {vs : List V} (h : Dts K H vs (ns.map PyData.int)) : vs = ns.map V.int := by
  induction ns generalizing vs with
  | nil => cases h; rfl
  | cons s ss ih =>
    cases h with
    | cons a b => rw [a.int_inv, ih b]; rfl
theorem dt_tup {p : Addr} {xs : List V} {ds : List PyData} (h : H p = some (.tup xs)) (g : Dts K H xs ds) : Dt K H (.ref p) (.tuple ds) := .tup (SqT.of h) g
end
/-- data that == may be asked of: texts in the line, not deep -/
def Fine (n : Nat) (d : PyData) : Prop := d.canLay0 = true ∧ d.depth ≤ n
theorem fine_int {n : Nat} (i : Int) : Fine n (.int i) := ⟨by simp [PyData.canLay0], by simp [PyData.depth]⟩
theorem fine_tup {n : Nat} {ds : List PyData} (h : ∀ d ∈ ds, Fine n d) : Fine (n + 1) (.tuple ds) := by
  have q : PyData.canLayAll0 ds = true ∧ PyData.depthAll ds ≤ n := by
    induction ds with
    | nil => simp [PyData.canLayAll0, PyData.depthAll]
    | cons d ds ih =>
      have h1 := h d (by simp)
      have h2 := ih fun y m => h y (List.mem_cons_of_mem _ m)
      simp only [PyData.canLayAll0, PyData.depthAll, h1.1, h2.1, Bool.and_self, true_and]
      have := h1.2
      have := h2.2
      omega
  exact ⟨by simp only [PyData.canLay0]; exact q.1, by simp only [PyData.depth]; have := q.2; omega⟩
theorem fine_str {n : Nat} {x : Str} (h : x.cps.all (· < 0x110000) = true) : Fine n (.str x) := ⟨by simp only [PyData.canLay0]; exact h, by simp [PyData.depth]⟩
theorem fine_num {n : Nat} {ds : List Nat} (h : ∀ d ∈ ds, d ≤ 9) : Fine n (.str (numS ds)) := by
  refine fine_str ?_
  rw [← Array.all_toList, List.all_eq_true]
  intro c m
  obtain ⟨d, md, rfl⟩ := List.mem_map.mp (show c ∈ codes ds from m)
  have := h d md
  exact decide_eq_true (by omega)
theorem Fine.shaped {n : Nat} {d : PyData} (h : Fine n d) (l : n ≤ 64) : SeqAt.shaped d = true := by
  have e : decide (d.depth ≤ 64) = true := decide_eq_true (Nat.le_trans h.2 l)
  show (d.canLay0 && _) = true
  rw [e, Bool.and_true]
  exact h.1
theorem Fine.refl {n : Nat} {d : PyData} (h : Fine n d) : PyData.eqv d d = true := SeqAt.eqv_refl d h.1
theorem Fine.mono {n m : Nat} {d : PyData} (h : Fine n d) (l : n ≤ m) : Fine m d := ⟨h.1, Nat.le_trans h.2 l⟩
end Dv

/-! A list or a tuple, told by a letter; loops over it that may write elsewhere. -/
namespace Kd
open PySem PySem.Spec PyProof.Rows L2
/-- the list or (t) the tuple at a -/
def Is (K : PySem.W.Frag) (t : Bool) (H : Hp) (a : Addr) (xs : List V) : Prop := if t = true then SqT K H a xs else SqL K H a xs
theorem Is.keep {K : PySem.W.Frag} {t : Bool} {H H' : Hp} {a : Addr} {xs : List V} (s : Same H H') (h : Is K t H a xs) : Is K t H' a xs := by
  cases t
  · exact Hf.keepL s h
  · exact Hf.keepT s h
theorem Is.sq {K : PySem.W.Frag} {t : Bool} {H : Hp} {a : Addr} {xs : List V} (h : Is K t H a xs) : SqL K H a xs ∨ SqT K H a xs := by
  cases t
  · exact .inl h
  · exact .inr h
theorem Is.tup {K : PySem.W.Frag} {H : Hp} {a : Addr} {xs : List V} (h : SqT K H a xs) : Is K true H a xs := h
theorem Is.lst {K : PySem.W.Frag} {H : Hp} {a : Addr} {xs : List V} (h : SqL K H a xs) : Is K false H a xs := h
section
variable {X : Cx}
def iSeq (K : PySem.W.Frag) (tl : TE) : TI := fun σ H R => tl σ H fun x H1 => ∃ a xs t, x = .ref a ∧ Is K t H1 a xs ∧
  ∀ J G, Walk J xs.length G (YAt xs) → (∀ H', Is K t H' a xs → G H') → R J H1
theorem pi_seq {tg l : Expr} {tl : TE} (hl : PE X l tl) : PI X tg l (iSeq X.K tl) := by
  refine ⟨fun pins s σ H R I h => ?_⟩
  refine thn (hl.run pins s σ H _ I h) fun v s1 ⟨x, H1, I1, r1, q1⟩ => ?_
  obtain ⟨a, xs, t, e, hq, q⟩ := q1
  subst e
  cases r1
  cases t with
  | false =>
    have hq : SqL X.K H1 a xs := hq
    have q := q _ _ walk_list fun H' s => s
    obtain ⟨its, rv, p, hz⟩ := I1.list hq
    refine wpAny_pyIter_list p.isList ?_
    refine ⟨s1.heap.objs.size, [s1.heap.objs.size], _, _, H1, rfl, I1.kept (t' := s1.toks) fun b o e => Heap.get?_push_of_some _ e, turn_list a _, ⟨_, Heap.get?_push_size _ rfl, rfl, rfl⟩, fun b hb => ?_, q⟩
    have e : b = s1.heap.objs.size := by simpa using hb
    subst e
    exact I1.fpOk (Nat.le_refl _) (I1.hok.fresh (Nat.le_refl _))
  | true =>
    have hq : SqT X.K H1 a xs := hq
    have q := q _ _ walk_tup fun H' s => s
    obtain ⟨its, rv, p, hz⟩ := I1.tuple hq
    refine wpAny_pyIter_tuple (show s1.heap.IsTuple a its.toArray from p) ?_
    refine ⟨s1.heap.objs.size, [s1.heap.objs.size], _, _, H1, rfl, I1.kept (t' := s1.toks) fun b o e => Heap.get?_push_of_some _ e, turn_tuple a _, ⟨_, Heap.get?_push_size _ rfl, rfl, rfl⟩, fun b hb => ?_, q⟩
    have e : b = s1.heap.objs.size := by simpa using hb
    subst e
    exact I1.fpOk (Nat.le_refl _) (I1.hok.fresh (Nat.le_refl _))
end
end Kd

/-! Comprehensions whose items are told one by one. -/
namespace Lm
open PySem L2 Wm Dv
theorem list_is {α : Type} {ys zs : List α} (l : ys.length = zs.length) (h : ∀ (i : Nat) y, ys[i]? = some y → zs[i]? = some y) : ys = zs := by
  refine List.ext_getElem? fun i => ?_
  by_cases q : i < ys.length
  · rw [h i _ (List.getElem?_eq_getElem q), List.getElem?_eq_getElem q]
  · rw [List.getElem?_eq_none (by omega), List.getElem?_eq_none (by omega)]
theorem lc_map {K : PySem.W.Frag} {J : It} {n : Nat} {G : Hp → Prop} {xs : List V} (w : Walk J n G (YAt xs)) {g : TG} {te : TE} {vs : List Nat} {σ : L2.St} {H1 : Hp} {D : Addr} {Qd : Hp → Prop} (R : Nat → V → Hp → Prop)
    (mono : ∀ i y H H', R i y H → Kt K H H' → R i y H') (hD : H1 D = none) (hn : n ≤ 1000) (hG : ∀ H', Same H1 H' → G H')
    (hs : ∀ i x H', i < n → xs[i]? = some x → Same H1 H' → ∀ (Q : V → Hp → Prop) (Z : Hp → Prop), (∀ y H4, Same H' H4 → R i y H4 → Q y H4) → g x (wipe σ vs) H' fun σ2 H2 => wipe σ2 vs = wipe σ vs ∧ tYes σ2 H2 fun b H3 => if b = true then te σ2 H3 Q else Z H3)
    (hd : ∀ H ys, Same H1 H → H D = some (.lst ys) → ys.length = n → (∀ (i : Nat) y, ys[i]? = some y → R i y H) → Qd H) :
    ∃ W : Nat → Nat → Hp → Prop, (∃ m, W 0 m (upd H1 D (.lst []))) ∧ ∀ i m H, W i m H →
      (J.stop i H ∧ Qd H) ∨ (J.go i H ∧ ∃ Nx : Hp → Prop, (∀ H', Nx H' → ∃ m', m' < m ∧ W (i + 1) m' H') ∧ ∀ x H', J.yld i H x H' → g x (wipe σ vs) H' fun σ2 H2 => wipe σ2 vs = wipe σ vs ∧ tYes σ2 H2 fun b H3 =>
        if b = true then te σ2 H3 fun y H4 => ∃ acc, H4 D = some (.lst acc) ∧ acc.length < sizeLine ∧ Nx (upd H4 D (.lst (acc ++ [y]))) else Nx H3) := by
  refine lc_it (tt := tYes) w (fun i H => Same H1 H ∧ ∃ ys : List V, ys.length = i ∧ H D = some (.lst ys) ∧ ∀ j y, ys[j]? = some y → R j y H) ⟨same_new hD, [], rfl, upd_same, fun (j : Nat) (y : V) e => by simp at e⟩ (fun i H _ h => hG H h.1) (fun i x H H' hi hP hY => ?_) (fun H hP => ?_)
  · obtain ⟨sm, ys, el, hy, hR⟩ := hP
    obtain ⟨rfl, hx⟩ := hY
    refine hs i x H' hi hx sm _ _ (fun y H4 s4 r4 => ?_)
    · refine ⟨ys, s4 _ _ hy, by rw [el]; exact small1000 (by omega), same_mut (sm.trans s4) hD, ys ++ [y], by rw [List.length_append, el]; rfl, upd_same, fun j z hz => ?_⟩
      have k5 : Kt K H4 (upd H4 D (.lst (ys ++ [y]))) := Kt.lst (s4 _ _ hy)
      by_cases lj : j < ys.length
      · rw [List.getElem?_append_left lj] at hz
        exact mono _ _ _ _ (hR j z hz) ((Kt.same s4).trans k5)
      · rw [List.getElem?_append_right (by omega)] at hz
        have e0 : j - ys.length = 0 := by
          by_cases q : j - ys.length = 0
          · exact q
          · rw [List.getElem?_eq_none (by rw [List.length_singleton]; omega)] at hz
            cases hz
        rw [e0] at hz
        have ez : y = z := by simpa using hz
        have ej : j = i := by omega
        subst ez ej
        exact mono _ _ _ _ r4 k5
  · obtain ⟨sm, ys, el, hy, hR⟩ := hP
    exact hd H ys sm hy el hR
end Lm
namespace Kx
open PySem L2
def rLen (K : PySem.W.Frag) : List V → Hp → VK → Prop := fun xs H Q => ∃ p ys, xs = [.ref p] ∧ (SqL K H p ys ∨ SqT K H p ys) ∧ Q (.int (ys.length : Nat)) H
def rTup (K : PySem.W.Frag) : List V → Hp → VK → Prop := fun xs H Q => ∃ a ys, xs = [.ref a] ∧ SqT K H a ys ∧ Q (.ref a) H
def rTupOf (K : PySem.W.Frag) : List V → Hp → VK → Prop := fun xs H Q => ∃ p ys, xs = [.ref p] ∧ ((SqL K H p ys ∧ ∀ l, H l = none → Q (.ref l) (upd H l (.tup ys))) ∨ (SqT K H p ys ∧ Q (.ref p) H))
end Kx

/-! A method with keywords alone; a def that may raise, where it does not. -/
namespace Mk1
open PySem PySem.Spec PyProof.Rows L2
theorem passF {X : Cx} : Passes (L2.CX X.prog X.w) X (fun _ _ _ => False) := by
  intro pins σ H s e s' I h
  obtain ⟨_, _, _, _, _, _, _, _, _, _, _, _, z⟩ := h
  exact z.elim
section
variable {X : Cx} {CX : CXT} {k : Nat} {f C : Addr} {fd : FuncData} {ps ks : List Str} {sp : Sp} {E : XK} {m : Str} {pos apos : Pos} {o : Expr} {kws : List Keyword} {ta : TE} {tk : TA} {g : List Value → List Value → List Value} {gV : List V → List V → List V} {pl : Sem Bool}
def tMethN (C : Addr) (m : Str) (n : Nat) (sp : Sp) (gV : List V → List V → List V) (E : XK) (ta : TE) (tk : TA) : TE := fun σ H Q => ta σ H fun x H1 => ∃ a dx fs, x = .ref a ∧ H1 a = some (.ins C dx fs) ∧ fs.lookup m = none ∧
  tk σ H1 fun zs H2 => zs.length = n ∧ sp (gV [x] zs) H2 Q E
theorem pe_methN (ho : PE X o ta) (c : Cls X.K C) (hm : Meth X.K C m f) (F : FnOk X.prog X.w X.K X.mg X.base CX k f fd ps sp) (hr : Room k X.A) (hb : KBn X.K fd ps 1 ks g gV) (hx : Passes CX X E) (hk : PK X kws tk)
    (h1 : (backToKw pos (keywordEach kws X.env)).all (·.1.isSome) = true := by rfl) (h2 : (backToKw pos (keywordEach kws X.env)).filterMap (·.1) = ks := by rfl)
    (h3 : ((backTo pos (starEach [] X.env)).any (·.1) || (backToKw pos (keywordEach kws X.env)).any (·.1.isNone)) = false := by rfl)
    (h4 : eval (.Call (.Attribute o m apos) [] kws pos) X.env = (do
      let v ← eval o X.env
      standAt apos.atName
      let (a, b) ← holding [v] (getMethod v m pl)
      callWith pos a b (backTo pos (starEach [] X.env)) (backToKw pos (keywordEach kws X.env))) := by rfl) :
    PE X (.Call (.Attribute o m apos) [] kws pos) (tMethN C m ks.length sp gV E ta tk) := by
  constructor
  intro pins s σ H Q I h
  refine PySem.W.methodCall_KW (pl := pl) (thn (ho.run pins s σ H _ I h) fun u s1 w => ?_) h4
  obtain ⟨x, H1, I1, rx, a, dx, fs, ex, ea, l, q⟩ := w
  subst ex
  cases (show u = Value.ref a from rx)
  refine getmeth_ok I1 ea c hm l ?_
  refine PySem.W.callWith_KW0 (first := [.ref a]) (h₀ := X.base) I.ok.mod.kin hm.kp h1 (thn (hk.run pos pins s1 σ H1 _ I1 q) fun ws s2 w2 => ?_) h3
  obtain ⟨zs, H2, I2, rz, l2, q2⟩ := w2
  refine ⟨I2.kIn, ?_⟩
  rw [h2]
  exact run_fnN (us := [.ref a]) (vs := [.ref a]) F hr hb hx I2 (.cons rfl .nil) rz rfl l2 q2
end
end Mk1

/-! Operators of own classes, by values: ==, <, .. by __eq__, __lt__, ..; |, &, - by __or__, ..; in by __contains__; len by __len__. -/
namespace Ow
open PySem PySem.Spec PyProof.Rows L2
section
variable {X : Cx} {CX : CXT} {C g : Addr} {n : Nat} {sp : Sp} {E : XK}
theorem ins_at {pins : List (Addr × Obj)} {σ : L2.St} {H : Hp} {s : Shared} {a C dx : Addr} {fs : List (Str × V)} (I : Inv X pins σ H s) (e : H a = some (.ins C dx fs)) : ∃ ox od, PySem.W.InstAt s.heap a ox C od := by
  obtain ⟨mA, O, _⟩ := ins_get I.hok e
  obtain ⟨od, J, _⟩ := O.look
  exact ⟨_, _, J⟩
/-- x op y by the own def of x's class at C; y's class not below C -/
def rCmp (K : PySem.W.Frag) (C : Addr) (sp : Sp) (E : XK) : R2 := fun x y H Q => ∃ a dx fs t, x = .ref a ∧ H a = some (.ins C dx fs) ∧ TyX K H y t ∧ PySem.W.notFirst K C t = true ∧ sp [x, y] H Q E
theorem op_cmp {op : CmpOp} (hop : ∀ a b, compareOp op a b = richCompare op a b) (hs : PySem.W.findIn X.K (.ref C) (cmpInfo op).2.1 = some (some (.ref g))) (hf : PySem.W.isFn X.K (.ref g) = true) (F : FnR X.prog X.w X.K X.mg X.base CX n g sp)
    (hr : Room n X.A) (hx : Passes CX X E) : OpR X (compareOp op) (rCmp X.K C sp E) := by
  intro pins s σ H x y v u Q I rx ry h
  obtain ⟨a, dx, fs, t, rfl, ha, ty, hn, q⟩ := h
  cases (show v = Value.ref a from rx)
  obtain ⟨ox, od, J⟩ := ins_at I ha
  obtain ⟨P, k, hp, _⟩ := kit_of I ry ty
  obtain ⟨m, hF⟩ := I.fr
  rw [hop]
  refine PySem.W.cmp_K (op := op) (tb := t) hr.units0 hF I.ok.mod.kin J (k.ty _ _ I.kIn hp) hn hs hf ?_
  refine wpAny_mono (wpAny_call (run_fnR (us := [.ref a, u]) (vs := [.ref a, y]) F hr hx I (.cons rfl (.cons ry .nil)) q)) (fun w s' z => ?_) fun _ _ x => x
  obtain ⟨z', H', I', rz, qz⟩ := z
  exact SlX.cmpback rz ⟨z', H', I', rz, qz⟩
/-- x op y, both of the class at C -/
def rBin (C : Addr) (sp : Sp) (E : XK) : R2 := fun x y H Q => ∃ a dx fs b dy gs, x = .ref a ∧ y = .ref b ∧ H a = some (.ins C dx fs) ∧ H b = some (.ins C dy gs) ∧ sp [x, y] H Q E
theorem op_bin {op : Operator} (hc : PySem.W.selfFirst X.K C = true) (hs : PySem.W.findIn X.K (.ref C) (PySem.dunder op.info.2) = some (some (.ref g))) (hf : PySem.W.isFn X.K (.ref g) = true) (F : FnR X.prog X.w X.K X.mg X.base CX n g sp)
    (hr : Room n X.A) (hx : Passes CX X E) : OpR X (binaryOp op) (rBin C sp E) := by
  intro pins s σ H x y v u Q I rx ry h
  obtain ⟨a, dx, fs, b, dy, gs, rfl, rfl, ha, hb, q⟩ := h
  cases (show v = Value.ref a from rx)
  cases (show u = Value.ref b from ry)
  obtain ⟨ox, od, J⟩ := ins_at I ha
  obtain ⟨oy, oe, J'⟩ := ins_at I hb
  obtain ⟨m, hF⟩ := I.fr
  refine PySem.W.binop_K (op := op) hF I.ok.mod.kin J J'.type hc hs hf ?_
  refine wpAny_mono (wpAny_call (run_fnR (us := [.ref a, .ref b]) (vs := [.ref a, .ref b]) F hr hx I (.cons rfl (.cons rfl .nil)) q)) (fun w s' z => ?_) fun _ _ x => x
  obtain ⟨z', H', I', rz, qz⟩ := z
  exact SlX.cmpback rz ⟨z', H', I', rz, qz⟩
/-- y in x, by __contains__ (its answer a bool) -/
def rIn (C : Addr) (sp : Sp) (E : XK) (neg : Bool) : R2 := fun y x H Q => ∃ a dx fs, x = .ref a ∧ H a = some (.ins C dx fs) ∧ sp [x, y] H (fun z H' => ∃ c, z = .bl c ∧ Q (.bl (if neg then !c else c)) H') E
theorem op_in (hs : PySem.W.findIn X.K (.ref C) "__contains__" = some (some (.ref g))) (hf : PySem.W.isFn X.K (.ref g) = true) (F : FnR X.prog X.w X.K X.mg X.base CX n g sp)
    (hr : Room n X.A) (hx : Passes CX X E) : OpR X (compareOp .In) (rIn C sp E false) := by
  intro pins s σ H y x u v Q I ry rx h
  obtain ⟨a, dx, fs, rfl, ha, q⟩ := h
  cases (show v = Value.ref a from rx)
  obtain ⟨ox, od, J⟩ := ins_at I ha
  obtain ⟨m, hF⟩ := I.fr
  refine PySem.W.in_K hF I.ok.mod.kin J hs hf ?_
  refine wpAny_mono (wpAny_call (run_fnR (us := [.ref a, u]) (vs := [.ref a, y]) F hr hx I (.cons rfl (.cons ry .nil)) q)) (fun w s' z => ?_) fun _ _ x => x
  obtain ⟨z', H', I', rz, c, rfl, qz⟩ := z
  cases (show w = Value.bool c from rz)
  exact wpAny_truthy_bool ⟨.bl c, H', I', rfl, qz⟩
theorem op_notIn (hs : PySem.W.findIn X.K (.ref C) "__contains__" = some (some (.ref g))) (hf : PySem.W.isFn X.K (.ref g) = true) (F : FnR X.prog X.w X.K X.mg X.base CX n g sp)
    (hr : Room n X.A) (hx : Passes CX X E) : OpR X (compareOp .NotIn) (rIn C sp E true) := by
  intro pins s σ H y x u v Q I ry rx h
  obtain ⟨a, dx, fs, rfl, ha, q⟩ := h
  cases (show v = Value.ref a from rx)
  obtain ⟨ox, od, J⟩ := ins_at I ha
  obtain ⟨m, hF⟩ := I.fr
  refine PySem.W.notIn_K hF I.ok.mod.kin J hs hf ?_
  refine wpAny_mono (wpAny_call (run_fnR (us := [.ref a, u]) (vs := [.ref a, y]) F hr hx I (.cons rfl (.cons ry .nil)) q)) (fun w s' z => ?_) fun _ _ x => x
  obtain ⟨z', H', I', rz, c, rfl, qz⟩ := z
  cases (show w = Value.bool c from rz)
  exact wpAny_truthy_bool ⟨.bl (!c), H', I', rfl, qz⟩
/-- len(x), by __len__ -/
def rLen (C : Addr) (sp : Sp) (E : XK) : List V → Hp → VK → Prop := fun xs H Q => ∃ a dx fs, xs = [V.ref a] ∧ H a = some (.ins C dx fs) ∧ sp [.ref a] H (fun z H' => ∃ i : Int, z = .int i ∧ 0 ≤ i ∧ i < 2 ^ 63 ∧ Q (.int i) H') E
theorem call_len (hs : PySem.W.findIn X.K (.ref C) "__len__" = some (some (.ref g))) (hf : PySem.W.isFn X.K (.ref g) = true) (F : FnR X.prog X.w X.K X.mg X.base CX n g sp)
    (hr : Room (n + 1) X.A) (hx : Passes CX X E) : CallR X (.builtin "len") (rLen C sp E) := by
  intro pins s σ H xs us Q I r h
  obtain ⟨a, dx, fs, rfl, ha, q⟩ := h
  obtain ⟨u, rfl, ru⟩ := r.one
  cases (show u = Value.ref a from ru)
  obtain ⟨ox, od, J⟩ := ins_at I ha
  obtain ⟨m, hF⟩ := I.fr
  refine PySem.W.len_K hF I.ok.mod.kin J hs hf (wpAny_mono (wpAny_call (SlX.run_at (us := [.ref a]) (ws := [.ref a]) F hr.in1 I.env0.in1 hx I (.cons rfl .nil) q)) (fun w s' z => ?_) fun _ _ x => x)
  obtain ⟨z', H', I', rz, i, rfl, h0, h1, qz⟩ := z
  obtain ⟨t, e⟩ := (show ∃ t, w = Value.int i t from rz)
  cases e
  exact ⟨⟨h0, h1⟩, .int i, H', I'.tok _, ⟨_, rfl⟩, qz⟩
end
end Ow

/-! set | set, set & set, set - set of sets of ints: the tables that are laid for them. -/
namespace So
open PySem PySem.Spec PyProof.Rows L2
/-- the masks that come when sets are merged -/
def M2 (m : Nat) : Prop := m ∈ [7, 15, 31, 63, 127, 255, 511, 1023, 2047, 4095]
/-- how far the run i -> 5 i + 1 from 0 is after n steps -/
def run5 : Nat → Nat
  | 0 => 0
  | n + 1 => run5 n * 5 + 1
theorem run5_add (a : Nat) : ∀ b, run5 (a + b) = run5 a * 5 ^ b + run5 b
  | 0 => by simp [run5]
  | b + 1 => by
    show run5 (a + b) * 5 + 1 = _
    rw [run5_add a b, Nat.pow_succ]
    show _ = run5 a * (5 ^ b * 5) + (run5 b * 5 + 1)
    rw [Nat.add_mul, Nat.mul_assoc]
    omega
theorem pow5_odd : ∀ n : Nat, ∃ q, 5 ^ n = 4 * q + 1
  | 0 => ⟨0, rfl⟩
  | n + 1 => by
    obtain ⟨q, e⟩ := pow5_odd n
    exact ⟨5 * q + 1, by rw [Nat.pow_succ, e]; omega⟩
/-- after 2 ^ k steps: an odd number of 2 ^ k -/
theorem run5_pow : ∀ k : Nat, ∃ q, run5 (2 ^ k) = 2 ^ k * (2 * q + 1)
  | 0 => ⟨0, rfl⟩
  | k + 1 => by
    obtain ⟨q, e⟩ := run5_pow k
    obtain ⟨p, ep⟩ := pow5_odd (2 ^ k)
    have e2 : run5 (2 ^ (k + 1)) = run5 (2 ^ k) * (4 * p + 1) + run5 (2 ^ k) := by
      rw [Nat.pow_succ, Nat.mul_two, run5_add, ep]
    refine ⟨2 * q * p + q + p, ?_⟩
    rw [e2, e, Nat.pow_succ]
    generalize 2 ^ k = z
    grind
theorem lcgN_run (m : Nat) : ∀ n, lcgN m n = run5 n % (m + 1)
  | 0 => by simp [lcgN, run5]
  | n + 1 => by
    show (lcgN m n * 5 + 1) % (m + 1) = (run5 n * 5 + 1) % (m + 1)
    rw [lcgN_run m n, Nat.add_mod, Nat.mul_mod, Nat.mod_mod, ← Nat.mul_mod, ← Nat.add_mod]
theorem reach : ∀ (k j : Nat), j < 2 ^ k → ∃ a < 2 ^ k, run5 a % 2 ^ k = j
  | 0, j, h => by
    have : j = 0 := by simpa using h
    subst this
    exact ⟨0, by decide, rfl⟩
  | k + 1, j, h => by
    have hp : 0 < 2 ^ k := Nat.two_pow_pos k
    obtain ⟨a, ha, ea⟩ := reach k (j % 2 ^ k) (Nat.mod_lt _ hp)
    obtain ⟨q, eq⟩ := run5_pow k
    obtain ⟨p, ep⟩ := pow5_odd a
    have e2 : 2 ^ (k + 1) = 2 ^ k * 2 := Nat.pow_succ ..
    -- run5 a is j or j + 2 ^ k modulo 2 ^ (k + 1)
    have two : ∀ x : Nat, x % 2 ^ k = j % 2 ^ k → x % 2 ^ (k + 1) = j ∨ (x + 2 ^ k) % 2 ^ (k + 1) = j := fun x hx => by
      rw [e2] at h ⊢
      generalize 2 ^ k = z at *
      have x1 := Nat.div_add_mod x z
      have j1 := Nat.div_add_mod j z
      have jd : j / z < 2 := (Nat.div_lt_iff_lt_mul hp).mpr (by rw [Nat.mul_comm]; exact h)
      have xz := Nat.mod_lt x hp
      have d1 := Nat.div_add_mod (x / z) 2
      have d2 := Nat.mod_lt (x / z) (by decide : 0 < 2)
      have hx1 : x = z * 2 * (x / z / 2) + (z * (x / z % 2) + x % z) := by
        conv => lhs; rw [← x1]
        conv => lhs; rw [← d1]
        rw [Nat.mul_add, Nat.add_assoc, Nat.mul_assoc]
      have small : ∀ c, c < 2 → z * c + x % z < z * 2 := fun c hc => by
        have : z * c ≤ z * 1 := Nat.mul_le_mul_left z (by omega)
        omega
      have r1 : x % (z * 2) = z * (x / z % 2) + x % z := by
        conv => lhs; rw [hx1]
        rw [Nat.mul_add_mod, Nat.mod_eq_of_lt (small _ d2)]
      by_cases c : x / z % 2 = j / z
      · left
        rw [r1, c, hx, j1]
      · right
        have r2 : (x + z) % (z * 2) = (z * (x / z % 2) + x % z + z) % (z * 2) := by
          rw [Nat.add_mod x z, r1, Nat.add_mod (z * (x / z % 2) + x % z) z, Nat.mod_eq_of_lt (small _ d2)]
        rw [r2]
        rcases Nat.lt_or_ge (x / z % 2) 1 with q | q
        · have x0 : x / z % 2 = 0 := by omega
          have j01 : j / z = 0 ∨ j / z = 1 := by
            generalize j / z = y at jd
            omega
          have j0 : j / z = 1 := j01.resolve_left fun e => c (x0.trans e.symm)
          have e0 : z * 0 + x % z + z = x % z + z := by rw [Nat.mul_zero, Nat.zero_add]
          have lt0 : x % z + z < z * 2 := by omega
          rw [x0, e0, Nat.mod_eq_of_lt lt0, hx]
          rw [j0, Nat.mul_one] at j1
          omega
        · have x0 : x / z % 2 = 1 := by omega
          have j01 : j / z = 0 ∨ j / z = 1 := by
            generalize j / z = y at jd
            omega
          have j0 : j / z = 0 := j01.resolve_right fun e => c (x0.trans e.symm)
          have lt0 : x % z < z * 2 := by omega
          rw [x0, show z * 1 + x % z + z = z * 2 + x % z by omega, Nat.add_mod_left, Nat.mod_eq_of_lt lt0, hx]
          rw [j0, Nat.mul_zero, Nat.zero_add] at j1
          exact j1
    rcases two (run5 a) ea with w | w
    · exact ⟨a, by omega, w⟩
    · refine ⟨2 ^ k + a, by omega, ?_⟩
      rw [run5_add, eq, ep, ← w]
      have : 2 ^ k * (2 * q + 1) * (4 * p + 1) = 2 ^ (k + 1) * (4 * p * q + q + 2 * p) + 2 ^ k := by
        rw [e2]
        generalize 2 ^ k = z
        grind
      rw [this, Nat.add_assoc, Nat.mul_add_mod, Nat.add_comm]
theorem orbit_pow (k : Nat) {m : Nat} (e : m + 1 = 2 ^ k) : (∀ j, j ≤ m → ∃ a ≤ m, lcgN m a = j) ∧ lcgN m (m + 1) = lcgN m 0 := by
  refine ⟨fun j hj => ?_, ?_⟩
  · obtain ⟨a, ha, ea⟩ := reach k j (by omega)
    exact ⟨a, by omega, by rw [lcgN_run, e]; exact ea⟩
  · rw [lcgN_run, lcgN_run, e]
    obtain ⟨q, eq⟩ := run5_pow k
    rw [eq, Nat.mul_mod_right]
    simp [run5]
theorem mask_pow {m : Nat} (hm : M2 m) : ∃ k, m + 1 = 2 ^ k := by
  simp only [M2, List.mem_cons, List.not_mem_nil, or_false] at hm
  rcases hm with rfl | rfl | rfl | rfl | rfl | rfl | rfl | rfl | rfl | rfl
  · exact ⟨3, rfl⟩
  · exact ⟨4, rfl⟩
  · exact ⟨5, rfl⟩
  · exact ⟨6, rfl⟩
  · exact ⟨7, rfl⟩
  · exact ⟨8, rfl⟩
  · exact ⟨9, rfl⟩
  · exact ⟨10, rfl⟩
  · exact ⟨11, rfl⟩
  · exact ⟨12, rfl⟩
theorem orbit {m : Nat} (hm : M2 m) : (∀ j, j ≤ m → ∃ a ≤ m, lcgN m a = j) ∧ lcgN m (m + 1) = lcgN m 0 := by
  obtain ⟨k, e⟩ := mask_pow hm
  exact orbit_pow k e
theorem orbit_at {m : Nat} (hm : M2 m) {j : Nat} (hj : j ≤ m) : ∃ a ≤ m, lcgN m a = j := (orbit hm).1 j hj
theorem meets {m : Nat} (hm : M2 m) (b : Nat) (hb : b < 2 ^ 64) {j : Nat} (hj : j ≤ m) : ∃ n, n < SetTable.turns m ∧ runI m b n = j := by
  obtain ⟨x, hx, ex⟩ := orbit_at hm (runI_le m b 12)
  obtain ⟨y, hy, ey⟩ := orbit_at hm hj
  have more : ∀ z, lcgI m (runI m b 12) z = lcgN m (x + z) := fun z => by rw [← ex, lcgN_add]
  have turn : ∀ z, lcgN m (m + 1 + z) = lcgN m z := fun z => by
    rw [← lcgN_add, (orbit hm).2, lcgN_add, Nat.zero_add]
  by_cases c : x ≤ y
  · refine ⟨12 + (y - x), by unfold SetTable.turns; omega, ?_⟩
    rw [runI_tail hb, more, show x + (y - x) = y by omega, ey]
  · refine ⟨12 + (m + 1 + y - x), by unfold SetTable.turns; omega, ?_⟩
    rw [runI_tail hb, more, show x + (m + 1 + y - x) = m + 1 + y by omega, turn, ey]
/-- where some run begins at a free place, a free place is found -/
theorem free_at {m : Nat} (owner : Array (Option Nat)) : ∀ (f n i b : Nat), i ≤ m → n < f → oAt owner (itL m i b n).1 = none →
    ∃ x, x ≤ m ∧ oAt owner x = none ∧ SetTable.layClean.free m owner f i b = some x
  | 0, n, _, _, _, h, _ => absurd h (Nat.not_lt_zero n)
  | f + 1, n, i, b, hi, h, z => by
    rw [free_succ]
    have re := runEnd_bd hi
    cases q : (List.range (SetTable.runEnd m i + 1 - i)).find? fun k => (oAt owner (i + k)).isNone with
    | some k =>
      have k1 := List.mem_range.mp (List.mem_of_find?_eq_some q)
      have k2 := List.find?_some q
      exact ⟨i + k, by omega, Option.isNone_iff_eq_none.mp k2, rfl⟩
    | none =>
      cases n with
      | zero =>
        have w := List.find?_eq_none.mp q 0 (by simp; omega)
        rw [Nat.add_zero] at w
        have z0 : oAt owner i = none := z
        rw [z0] at w
        exact absurd rfl w
      | succ n => exact free_at owner f n _ _ (Nat.le_of_lt_succ (Nat.mod_lt _ (by omega))) (by omega) z
/-- the elements laid so far: each of the first k has one place -/
structure Laid (m k : Nat) (owner : Array (Option Nat)) : Prop where
  sz : owner.size = m + 1
  pm : ((List.range (m + 1)).filterMap fun j => owner.getD j none).Perm (List.range k)
theorem fm_congr {α β : Type} {f g : α → Option β} : ∀ {l : List α}, (∀ x ∈ l, f x = g x) → l.filterMap f = l.filterMap g
  | [], _ => rfl
  | x :: l, h => by
    have ih := fm_congr (l := l) fun y hy => h y (List.mem_cons_of_mem _ hy)
    have e := h x List.mem_cons_self
    simp only [List.filterMap_cons, e, ih]
theorem put_perm {f g : Nat → Option Nat} {x k : Nat} (e : g x = some k) (e0 : f x = none) (o : ∀ y, y ≠ x → g y = f y) : ∀ l : List Nat, l.Nodup → x ∈ l → (l.filterMap g).Perm (k :: l.filterMap f)
  | [], _, h => by cases h
  | y :: l, nd, h => by
    rw [List.nodup_cons] at nd
    by_cases c : y = x
    · subst c
      rw [List.filterMap_cons_some e, List.filterMap_cons_none e0, fm_congr fun z hz => o z fun q => nd.1 (q ▸ hz)]
    · have ih := put_perm e e0 o l nd.2 ((List.mem_cons.mp h).resolve_left fun q => c q.symm)
      cases q : f y with
      | none => rw [List.filterMap_cons_none ((o y c).trans q), List.filterMap_cons_none q]; exact ih
      | some z => rw [List.filterMap_cons_some ((o y c).trans q), List.filterMap_cons_some q]; exact (ih.cons z).trans (.swap _ _ _)
theorem Laid.put {m k : Nat} {owner : Array (Option Nat)} (L : Laid m k owner) {x : Nat} (hx : x ≤ m) (e : oAt owner x = none) : Laid m (k + 1) (owner.setIfInBounds x (some k)) := by
  have xs : x < owner.size := by rw [L.sz]; omega
  refine ⟨by rw [Array.size_setIfInBounds, L.sz], ?_⟩
  refine (put_perm (x := x) (k := k) (f := fun j => owner.getD j none) ?_ ?_ (fun y ny => ?_) _ List.nodup_range (by simp; omega)).trans ?_
  · simp [Array.getD_eq_getD_getElem?, Array.getElem?_setIfInBounds, xs]
  · simpa [oAt, Array.getD_eq_getD_getElem?, xs] using e
  · simp only [Array.getD_eq_getD_getElem?, Array.getElem?_setIfInBounds, if_neg ny.symm]
  · refine (L.pm.cons k).trans ?_
    rw [List.range_succ]
    exact (List.perm_append_singleton k _).symm
theorem Laid.room {m k : Nat} {owner : Array (Option Nat)} (L : Laid m k owner) (hk : k ≤ m) : ∃ j, j ≤ m ∧ oAt owner j = none := by
  refine Classical.byContradiction fun c => ?_
  have full : ∀ l : List Nat, (∀ j ∈ l, j ≤ m) → (l.filterMap fun j => owner.getD j none).length = l.length := fun l => by
    induction l with
    | nil => exact fun _ => rfl
    | cons j l ih =>
      intro hl
      have hj := hl j List.mem_cons_self
      cases q : owner.getD j none with
      | none =>
        refine absurd ⟨j, hj, ?_⟩ c
        have js : j < owner.size := by rw [L.sz]; omega
        simpa [oAt, Array.getD_eq_getD_getElem?, js] using q
      | some z => rw [List.filterMap_cons_some (f := fun j => owner.getD j none) q, List.length_cons, List.length_cons, ih fun y hy => hl y (List.mem_cons_of_mem _ hy)]
  have q := full (List.range (m + 1)) fun j hj => by simp at hj; omega
  rw [L.pm.length_eq, List.length_range, List.length_range] at q
  omega
theorem lay_fold {m : Nat} (hm : M2 m) : ∀ (hs : List Int) (k : Nat) (owner : Array (Option Nat)), Laid m k owner → k + hs.length ≤ m →
    ∃ o2, hs.foldl (stepF m) (some (owner, k)) = some (o2, k + hs.length) ∧ Laid m (k + hs.length) o2
  | [], k, owner, L, _ => ⟨owner, rfl, L⟩
  | h :: hs, k, owner, L, hl => by
    rw [List.length_cons] at hl
    obtain ⟨j, hj, ej⟩ := L.room (by omega)
    obtain ⟨n, hn, en⟩ := meets hm (SetTable.bits h) (bits_lt h) hj
    obtain ⟨x, hx, ex, fx⟩ := free_at (m := m) owner (SetTable.turns m) n (SetTable.bits h % (m + 1)) (SetTable.bits h) (Nat.le_of_lt_succ (Nat.mod_lt _ (by omega))) hn (by rw [itL_run, en]; exact ej)
    obtain ⟨o2, e2, L2⟩ := lay_fold hm hs (k + 1) _ (L.put hx ex) (by omega)
    refine ⟨o2, ?_, by rw [List.length_cons, Nat.add_comm hs.length 1, ← Nat.add_assoc]; exact L2⟩
    rw [List.foldl_cons, stepF_some fx, e2, List.length_cons, Nat.add_comm hs.length 1, ← Nat.add_assoc]
/-- any elements are laid in a table of more places -/
theorem laid_ok {m : Nat} (hm : M2 m) {hs : Array Int} (hn : hs.size ≤ m) (fi mo : Nat) (led pl : Bool) :
    ∃ t order, SetTable.laid m fi mo led pl hs = some (t, order) ∧ order.toList.Perm (List.range hs.size) ∧ Ris t.place.toList ∧ t.place.size = hs.size ∧ t.dummies = #[] ∧ t.mask = m ∧ t.led = led := by
  obtain ⟨o2, e, L⟩ := lay_fold hm hs.toList 0 (Array.replicate (m + 1) none) ⟨by simp, by
    have z : ∀ l : List Nat, (l.filterMap fun j => (Array.replicate (m + 1) (none : Option Nat)).getD j none) = [] := fun l => by
      induction l with
      | nil => rfl
      | cons j l ih =>
        rw [List.filterMap_cons_none, ih]
        simp only [Array.getD_eq_getD_getElem?, Array.getElem?_replicate]
        split <;> rfl
    rw [z]
    exact .nil⟩ (by rw [Array.length_toList]; omega)
  rw [Array.length_toList, Nat.zero_add] at L
  have lc : SetTable.layClean m hs = some o2 := by rw [layClean_eq, e]; rfl
  have ris := ris_live (fun j => o2.getD j none) (List.range (m + 1)) (by unfold Ris; exact List.pairwise_lt_range)
  have snd : (((List.range (m + 1)).filterMap fun j => (o2.getD j none).map (j, ·)).map (·.2)) = (List.range (m + 1)).filterMap fun j => o2.getD j none := by
    rw [List.map_filterMap]
    refine fm_congr fun j _ => ?_
    cases o2.getD j none <;> rfl
  refine ⟨_, _, by unfold SetTable.laid; rw [lc]; rfl, ?_, ris.1, ?_, rfl, rfl, rfl⟩
  · show ((((List.range (m + 1)).filterMap fun j => (o2.getD j none).map (j, ·)).map (·.2))).Perm _
    rw [snd]
    exact L.pm
  · rw [List.size_toArray, List.length_map, ← List.length_map (f := Prod.snd), snd, L.pm.length_eq, List.length_range]
end So
namespace So
open PySem PySem.Spec PyProof.Rows L2
/-- what a table holds: S its members, n their number -/
structure Tab (w : World) (S : Int → Bool) (n : Nat) (es : Array (Int × Value)) (t : SetTable) : Prop where
  g : ∀ e ∈ es.toList, GoodE e
  nd : (es.toList.map keyOf).Nodup
  mem : ∀ k, S k = true ↔ k ∈ es.toList.map keyOf
  bd : es.size < scanBound
  fit : t.fits es.size = true
  num : es.size = n
  ris : Ris t.place.toList
  led : w.params.followText "set-order" = true ∨ t.led = true
/-- a set's object at an address -/
def At (h : Heap) (a : Addr) (es : Array (Int × Value)) (ep : Nat) (t : SetTable) : Prop := ∃ o, h.get? a = some o ∧ o.ExactSet ∧ o.data = .set es ep t
theorem setR_iff {w : World} {h : Heap} {a : Addr} {S : Int → Bool} {n : Nat} : SetR w h a S n ↔ ∃ es ep t, At h a es ep t ∧ Tab w S n es t := by
  constructor
  · rintro ⟨o, es, ep, t, h1, h2, h3, h4, h5, h6, h7, h8, h9, hA, hB⟩
    exact ⟨es, ep, t, ⟨o, h1, h2, h3⟩, ⟨h4, h5, h6, h7, h8, h9, hA, hB⟩⟩
  · rintro ⟨es, ep, t, ⟨o, h1, h2, h3⟩, T⟩
    exact ⟨o, es, ep, t, h1, h2, h3, T.g, T.nd, T.mem, T.bd, T.fit, T.num, T.ris, T.led⟩
theorem fits_iff {t : SetTable} {n : Nat} : t.fits n = true ↔ t.place.size = n ∧ t.place.size + t.dummies.size ≤ t.mask := by
  unfold SetTable.fits SetTable.fill
  rw [Bool.and_eq_true, beq_iff_eq, decide_eq_true_eq]
theorem Tab.turn {w : World} {S : Int → Bool} {n : Nat} {es es' : Array (Int × Value)} {t t' : SetTable} (T : Tab w S n es t) (p : es'.toList.Perm es.toList) (f : t'.fits es'.size = true) (r : Ris t'.place.toList)
    (l : w.params.followText "set-order" = true ∨ t'.led = true) : Tab w S n es' t' := by
  have z : es'.size = es.size := by rw [← Array.length_toList, p.length_eq, Array.length_toList]
  exact ⟨fun e he => T.g e (p.mem_iff.mp he), (p.map keyOf).nodup_iff.mpr T.nd, fun k => (T.mem k).trans (p.map keyOf).mem_iff.symm, by rw [z]; exact T.bd, f, by rw [z]; exact T.num, r, l⟩
theorem pick_all {α : Type} : ∀ l : List α, (List.range l.length).filterMap (fun i => l[i]?) = l
  | [] => rfl
  | x :: l => by
    rw [List.length_cons, List.range_succ_eq_map, List.filterMap_cons_some (f := fun i => (x :: l)[i]?) (b := x) rfl, List.filterMap_map]
    exact congrArg (x :: ·) (pick_all l)
theorem pick_perm {es : Array (Int × Value)} {order : Array Nat} (h : order.toList.Perm (List.range es.size)) : (order.filterMap (es[·]?)).toList.Perm es.toList := by
  have q := h.filterMap fun i => es.toList[i]?
  rw [← Array.length_toList, pick_all] at q
  rw [Array.toList_filterMap]
  simpa using q
section
variable {P : Program} {w : World} {A : Around} {E : Value → Shared → Prop} {s : Shared} {a : Addr} {S : Int → Bool} {n : Nat} {es : Array (Int × Value)} {ep : Nat} {t : SetTable}
/-- the sizes that a table grows to -/
theorem sizes {k : Nat} (h : k < 2000) : M2 (SetTable.sizeAbove (k * 2) - 1) ∧ k ≤ SetTable.sizeAbove (k * 2) - 1 ∧ SetTable.sizeAbove (k * 2) ≤ 4096 := by
  have q : ∀ k ∈ List.range 2000, (SetTable.sizeAbove (k * 2) - 1) ∈ [7, 15, 31, 63, 127, 255, 511, 1023, 2047, 4095] ∧ k ≤ SetTable.sizeAbove (k * 2) - 1 ∧ SetTable.sizeAbove (k * 2) ≤ 4096 := by decide +kernel
  exact q k (List.mem_range.mpr h)
theorem relay {k : Nat} (hk : k < 2000) (hn : n ≤ k) (a0 : At s.heap a es ep t) (T : Tab w S n es t) {Q : Unit → Shared → Prop}
    (q : ∀ h' es' t', Heap.SameBut a s.heap h' → At h' a es' (ep + 1) t' → Tab w S n es' t' → t'.dummies = #[] → t'.mask = SetTable.sizeAbove (k * 2) - 1 → Q () { s with heap := h' }) :
    wpAny (model P w) A (setRelay a (k * 2)) Q E s := by
  obtain ⟨o, ho, hx, hd⟩ := a0
  obtain ⟨m2, km, w128⟩ := sizes hk
  obtain ⟨t', order, e, pm, ris, sz, dm, mk, ld⟩ := laid_ok m2 (hs := es.map (·.1)) (by rw [Array.size_map, T.num]; omega) t.finger (t.movedTo (SetTable.sizeAbove (k * 2) - 1)) t.led t.plain
  rw [Array.size_map] at pm sz
  have pp := pick_perm pm
  have zz : (order.filterMap (es[·]?)).size = es.size := by rw [← Array.length_toList, pp.length_eq, Array.length_toList]
  have e' : t.relaid (es.map (·.1)) (k * 2) = some (t', order) := e
  have sl := sizeLine_eq
  rw [setRelay_eq]
  refine wpAny_bind (wpAny_setState_of ho hd T.fit ?_)
  dsimp only
  refine wp_if_neg (by omega) ?_
  try refine wpAny_bind (wpAny_pure ?_)
  rw [e']
  dsimp only
  refine wpAny_bind (wp_if_neg (by rw [zz]; simp) ?_)
  try refine wpAny_bind (wpAny_pure ?_)
  refine wpAny_pure (wpAny_storeSet_of ho hd ?_ (by rw [zz]; exact fits_of_scanBound T.bd))
  exact q _ _ _ (Heap.SameBut.update ..) ⟨_, store_at ho hd, ⟨hx.1, hx.2.1, hx.2.2⟩, rfl⟩ (T.turn pp (fits_iff.mpr ⟨by rw [sz, zz], by rw [sz, dm, mk, T.num]; simp; omega⟩) ris (T.led.imp id fun z => by rw [ld]; exact z)) dm mk
theorem room {more : Nat} (hk : n + more < 2000) (a0 : At s.heap a es ep t) (T : Tab w S n es t) {Q : Unit → Shared → Prop}
    (q : ∀ h' es' ep' t', Heap.SameBut a s.heap h' → At h' a es' ep' t' → Tab w S n es' t' → (t' = t ∧ es' = es ∧ (t.fill + more) * 5 < t.mask * 3 ∨ t'.dummies = #[] ∧ t'.mask = SetTable.sizeAbove ((n + more) * 2) - 1) → Q () { s with heap := h' }) :
    wpAny (model P w) A (setRoomFor a more) Q E s := by
  obtain ⟨o, ho, hx, hd⟩ := id a0
  have ps := (fits_iff.mp T.fit).1
  unfold setRoomFor
  refine wpAny_bind (wpAny_setState_of ho hd T.fit ?_)
  dsimp only
  unfold SetTable.roomFor
  by_cases c : (t.fill + more) * 5 ≥ t.mask * 3
  · rw [if_pos c]
    dsimp only
    rw [ps, T.num]
    exact relay hk (by omega) a0 T fun h' es' t' sb a1 T1 dm mk => q h' es' _ t' sb a1 T1 (.inr ⟨dm, mk⟩)
  · rw [if_neg c]
    exact wpAny_pure (q s.heap es ep t (Heap.SameBut.refl ..) a0 T (.inl ⟨rfl, rfl, by omega⟩))
end
end So
namespace So
open PySem PySem.Spec PyProof.Rows L2
section
variable {P : Program} {w : World} {A : Around} {E : Value → Shared → Prop} {s : Shared} {a : Addr} {S : Int → Bool} {n : Nat} {es : Array (Int × Value)} {ep : Nat} {t : SetTable}
/-- no element of sets of ints is asked for its own == -/
theorem quiet : ∀ {l : List Addr} {Q : Bool → Shared → Prop}, (∀ a ∈ l, ∃ S n, SetR w s.heap a S n) → Q true s → wpAny (model P w) A (setsQuiet l) Q E s := by
  intro l Q hl q
  unfold setsQuiet
  refine wpAny_bind (wpAny_forIn_list _ (fun rest r s' => r.1 = none ∧ s' = s ∧ ∀ a ∈ rest, ∃ S n, SetR w s.heap a S n) _ (fun a rest b s' hI => ?_) (fun b s' hI => ?_) l _ ⟨rfl, rfl, hl⟩)
  · obtain ⟨e0, rfl, hr⟩ := hI
    obtain ⟨S, n, R⟩ := hr a List.mem_cons_self
    obtain ⟨es, ep, t, ⟨o, ho, hx, hd⟩, T⟩ := setR_iff.mp R
    refine wpAny_bind (wpAny_setEntries_of ho hd T.fit ?_)
    rw [← Array.forIn_toList]
    refine wpAny_bind (wpAny_forIn_list _ (fun rest r s2 => r.1 = none ∧ s2 = s' ∧ ∀ e ∈ rest, GoodE e) _ (fun x more c s2 hJ => ?_) (fun c s2 hJ => ?_) es.toList _ ⟨rfl, rfl, T.g⟩)
    · obtain ⟨e1, rfl, hg⟩ := hJ
      obtain ⟨k, tk, ek, _⟩ := hg x List.mem_cons_self
      obtain ⟨x1, x2⟩ := x
      cases (show x2 = .int k tk from ek)
      exact wpAny_pure ⟨rfl, rfl, fun e he => hg e (List.mem_cons_of_mem _ he)⟩
    · obtain ⟨e1, rfl, _⟩ := hJ
      dsimp only
      rw [e1]
      exact wpAny_pure ⟨rfl, rfl, fun a ha => hr a (List.mem_cons_of_mem _ ha)⟩
  · obtain ⟨e0, rfl, _⟩ := hI
    dsimp only
    rw [e0]
    exact wpAny_pure q
theorem walk_es (a0 : At s.heap a es ep t) (T : Tab w S n es t) (hp : w.params.followText "set-order" = true ∨ t.plain = true ∨ es.size ≤ 1) {Q : Array (Int × Value) → Shared → Prop} (q : ∀ es' : Array (Int × Value), es'.toList.Perm es.toList → Q es' s) :
    wpAny (model P w) A (setWalk a) Q E s := by
  obtain ⟨o, ho, hx, hd⟩ := id a0
  unfold setWalk
  refine wpAny_bind (wpAny_setState_of ho hd T.fit ?_)
  dsimp only
  refine wpAny_bind (wpAny_byText ?_)
  by_cases bt : w.params.followText "set-order" = true
  · refine wp_if_pos bt ?_
    exact wpAny_bind (wpAny_askSetting (wpAny_pure (q _ (L2.pick_perm _ _))))
  · refine wp_if_neg bt ?_
    have pl := hp.resolve_left bt
    have ld := T.led.resolve_left bt
    have dr : (!t.plain && decide (es.size > 1)) = false := by
      rcases pl with z | z
      · rw [z]; rfl
      · rw [decide_eq_false (by omega), Bool.and_false]
    refine wp_if_neg (fun z => ?_) ?_
    · have z' : (!t.plain && decide (es.size > 1)) = true := z
      rw [dr] at z'
      cases z'
    · have ml : (if (!t.led && decide (es.size > 1)) = true then unsupported "set:maker-not-led" else pure ()) = (pure () : Sem Unit) := by
        rw [ld]
        rfl
      exact wpAny_bind (wpAny_of_eq ml (wpAny_pure (q es (.refl _))))
theorem walk_unseen {l : List Addr} {r : Addr} {S' : Int → Bool} {n' : Nat} (a0 : At s.heap a es ep t) (T : Tab w S n es t) (R : SetR w s.heap r S' n') (ne : a ≠ r) (hl : ∀ b ∈ l, ∃ S n, SetR w s.heap b S n) {Q : Array (Int × Value) → Shared → Prop}
    (q : ∀ h' (es' : Array (Int × Value)), Heap.SameBut r s.heap h' → SetR w h' r S' n' → es'.toList.Perm es.toList → Q es' { s with heap := h' }) : wpAny (model P w) A (setWalkUnseen a l (some r)) Q E s := by
  obtain ⟨o, ho, hx, hd⟩ := id a0
  unfold setWalkUnseen
  refine wpAny_bind (wpAny_setState_of ho hd T.fit ?_)
  dsimp only
  refine wpAny_bind (wpAny_byText ?_)
  have plain : ∀ {Q1 : Array (Int × Value) → Shared → Prop}, Q1 = Q → (w.params.followText "set-order" = true ∨ t.plain = true ∨ es.size ≤ 1) → wpAny (model P w) A (setWalk a) Q1 E s := fun e hp => by
    subst e
    exact walk_es a0 T hp fun es' p => q s.heap es' (Heap.SameBut.refl ..) R p
  by_cases c : (w.params.followText "set-order" || t.led && t.plain || decide (es.size ≤ 1)) = true
  · refine wp_if_pos c (plain rfl ?_)
    rw [Bool.or_eq_true, Bool.or_eq_true, Bool.and_eq_true, decide_eq_true_eq] at c
    rcases c with (c | c) | c
    · exact .inl c
    · exact .inr (.inl c.2)
    · exact .inr (.inr c)
  · refine wp_if_neg c (wpAny_bind (quiet (fun b hb => ?_) ?_))
    · rcases List.mem_cons.mp hb with rfl | hb
      · exact ⟨S, n, setR_iff.mpr ⟨es, ep, t, a0, T⟩⟩
      · exact hl b hb
    refine wp_if_neg (by simp) ?_
    refine wpAny_bind (wpAny_rule ?_)
    obtain ⟨er, pr, tr, ⟨o2, ho2, hx2, hd2⟩, Tr⟩ := setR_iff.mp R
    refine wpAny_bind (wpAny_setState_of ho2 hd2 Tr.fit ?_)
    dsimp only
    by_cases d : (tr.led && !t.led || tr.plain && !t.plain) = true
    · refine wp_if_pos d (wpAny_bind (wpAny_storeSet_of ho2 hd2 (wpAny_pure (q _ es (Heap.SameBut.update ..) (setR_iff.mpr ⟨_, _, _, ⟨_, store_at ho2 hd2, ⟨hx2.1, hx2.2.1, hx2.2.2⟩, rfl⟩, Tr.turn (.refl _) Tr.fit Tr.ris ?_⟩) (.refl _))) (fits_of_scanBound Tr.bd)))
      rcases T.led with z | z
      · exact .inl z
      · exact Tr.led.imp id fun y => by
          show (tr.led && t.led) = true
          rw [y, z]
          rfl
    · exact wp_if_neg d (wpAny_pure (q s.heap es (Heap.SameBut.refl ..) R (.refl _)))
end
end So
namespace So
open PySem PySem.Spec PyProof.Rows L2
theorem road_empty {t u : SetTable} (h : t.road u ≠ .oneByOne) : t.place.size = 0 ∧ t.dummies.size = 0 := by
  unfold SetTable.road SetTable.fill at h
  by_cases c : (t.place.size + t.dummies.size != 0) = true
  · rw [if_pos c] at h
    exact absurd rfl h
  · simp at c
    simpa using c
section
variable {P : Program} {w : World} {A : Around} {E : Value → Shared → Prop} {s : Shared} {r o : Addr} {S U : Int → Bool} {n m : Nat} {er eo : Array (Int × Value)} {pr po : Nat} {tr to : SetTable}
theorem At.but {h h' : Heap} {a : Addr} (x : At h o eo po to) (ne : o ≠ a) (sb : Heap.SameBut a h h') : At h' o eo po to := by
  obtain ⟨b, hb, hx⟩ := x
  exact ⟨b, (sb.2 o ne).trans hb, hx⟩
theorem merge (ne : r ≠ o) (ar : At s.heap r er pr tr) (Tr : Tab w S n er tr) (ao : At s.heap o eo po to) (To : Tab w U m eo to) (hz : n = 0 → M2 tr.mask) (few : n + m < 2000) {each : Sem Unit}
    (he : ∀ (h' : Heap) {Q' : Unit → Shared → Prop}, Heap.SameBut r s.heap h' → Q' () { s with heap := h' } → wpAny (model P w) A each Q' E { s with heap := h' }) {Q : Unit → Shared → Prop}
    (q : ∀ h' c, (m = 0 → h' = s.heap) → Heap.SameBut r s.heap h' → c ≤ n + m → SetR w h' r (fun k => S k || U k) c → Q () { s with heap := h' }) : wpAny (model P w) A (setMerge r o each) Q E s := by
  obtain ⟨oo, ho, hxo, hdo⟩ := id ao
  unfold setMerge
  refine wp_if_neg (by simp [ne]) ?_
  refine wpAny_bind (wpAny_setState_of ho hdo To.fit ?_)
  dsimp only
  by_cases em : eo.isEmpty = true
  · refine wp_if_pos em (wpAny_pure (q s.heap n (fun _ => rfl) (Heap.SameBut.refl ..) (by omega) ((setR_iff.mpr ⟨_, _, _, ar, Tr⟩).congr fun k => ?_)))
    have z : U k = false := by
      refine Bool.eq_false_iff.mpr fun y => ?_
      have mm := (To.mem k).mp y
      rw [Array.isEmpty_iff.mp em] at mm
      cases mm
    rw [z, Bool.or_false]
  refine wp_if_neg em ?_
  have zo := To.num
  have some_ : ∀ {h' : Heap}, m = 0 → h' = s.heap := fun z => absurd (by rw [Array.isEmpty_iff_size_eq_zero]; omega) em
  refine wpAny_bind (room (n := n) (more := eo.size) (by omega) ar Tr fun h1 e1 p1 t1 sb1 a1 T1 cd => ?_)
  obtain ⟨o1, ho1, hx1, hd1⟩ := id a1
  refine wpAny_bind (wpAny_setState_of ho1 hd1 T1.fit ?_)
  dsimp only
  have fresh : t1.road to ≠ .oneByOne → n = 0 ∧ t1.dummies = #[] ∧ M2 t1.mask ∧ m ≤ t1.mask ∧ ∀ k, S k = false := fun nr => by
    obtain ⟨z1, z2⟩ := road_empty nr
    have n0 : n = 0 := by rw [← T1.num, ← (fits_iff.mp T1.fit).1]; exact z1
    refine ⟨n0, Array.eq_empty_of_size_eq_zero z2, ?_, ?_, fun k => Bool.eq_false_iff.mpr fun y => ?_⟩
    · rcases cd with ⟨rfl, _, _⟩ | ⟨_, mk⟩
      · exact hz n0
      · rw [mk]
        exact (sizes (k := n + eo.size) (by omega)).1
    · rcases cd with ⟨rfl, _, lt⟩ | ⟨_, mk⟩
      · unfold SetTable.fill at lt
        omega
      · rw [mk]
        have := (sizes (k := n + eo.size) (by omega)).2.1
        omega
    · have mm := (T1.mem k).mp y
      rw [Array.eq_empty_of_size_eq_zero (T1.num.trans n0)] at mm
      cases mm
  have led2 : w.params.followText "set-order" = true ∨ (t1.led && to.led) = true := by
    rcases To.led with z | z
    · exact .inl z
    · exact T1.led.imp id fun y => by rw [y, z]; rfl
  cases rd : t1.road to with
  | slotForSlot =>
    obtain ⟨n0, d0, m2, mm, sf⟩ := fresh (by rw [rd]; exact fun z => nomatch z)
    dsimp only
    refine wpAny_storeSet_of ho1 hd1 (q _ m some_ (sb1.trans (Heap.SameBut.update ..)) (by omega) (setR_iff.mpr ⟨_, _, _, ⟨_, store_at ho1 hd1, ⟨hx1.1, hx1.2.1, hx1.2.2⟩, rfl⟩, ?_⟩)) (fits_of_scanBound To.bd)
    have T2 := To.turn (es' := eo) (t' := { to with finger := t1.finger, led := t1.led && to.led, moves := t1.moves, plain := t1.plain && to.plain }) (.refl _) To.fit To.ris led2
    exact ⟨T2.g, T2.nd, fun k => by rw [sf k, Bool.false_or]; exact T2.mem k, T2.bd, T2.fit, T2.num, T2.ris, T2.led⟩
  | clean =>
    obtain ⟨n0, d0, m2, mm, sf⟩ := fresh (by rw [rd]; exact fun z => nomatch z)
    dsimp only
    obtain ⟨t', order, e, pm, ris, sz, dm, mk, ld⟩ := laid_ok m2 (hs := eo.map (·.1)) (by rw [Array.size_map]; omega) t1.finger t1.moves (t1.led && to.led) (t1.plain && to.plain)
    rw [Array.size_map] at pm sz
    have pp := So.pick_perm pm
    have zz : (order.filterMap (eo[·]?)).size = eo.size := by rw [← Array.length_toList, pp.length_eq, Array.length_toList]
    rw [e]
    refine wpAny_bind (wp_if_neg (by rw [zz]; simp) (wpAny_pure ?_))
    have T2 := To.turn (t' := t') pp (fits_iff.mpr ⟨by rw [sz, zz], by rw [sz, dm, mk]; simp; omega⟩) ris (by rw [ld]; exact led2)
    refine wpAny_storeSet_of ho1 hd1 (q _ m some_ (sb1.trans (Heap.SameBut.update ..)) (by omega) (setR_iff.mpr ⟨_, _, _, ⟨_, store_at ho1 hd1, ⟨hx1.1, hx1.2.1, hx1.2.2⟩, rfl⟩, ?_⟩)) (by rw [zz]; exact fits_of_scanBound To.bd)
    exact ⟨T2.g, T2.nd, fun k => by rw [sf k, Bool.false_or]; exact T2.mem k, T2.bd, T2.fit, T2.num, T2.ris, T2.led⟩
  | oneByOne =>
    dsimp only
    have R1 : SetR w h1 r S n := setR_iff.mpr ⟨_, _, _, a1, T1⟩
    refine wpAny_bind (walk_unseen (s := { s with heap := h1 }) (ao.but (Ne.symm ne) sb1) To R1 (Ne.symm ne) (fun b hb => ?_) fun h2 e2 sb2 R2 p2 => ?_)
    · cases (List.mem_singleton.mp hb)
      exact ⟨S, n, R1⟩
    rw [← Array.forIn_toList]
    have sb02 := sb1.trans sb2
    have g2 : ∀ e ∈ e2.toList, GoodE e := fun e z => To.g e (p2.mem_iff.mp z)
    have l2 : e2.toList.length = m := by rw [p2.length_eq, Array.length_toList, zo]
    have sc : scanBound = 4096 := rfl
    refine wpAny_bind (wpAny_forIn_list _ (fun rest _ s' => ∃ h' c done, s' = { s with heap := h' } ∧ Heap.SameBut r s.heap h' ∧ e2.toList = done ++ rest ∧ c + rest.length ≤ n + m ∧ SetR w h' r (fun k => S k || decide (k ∈ done.map keyOf)) c)
      _ (fun x rest b s' hI => ?_) (fun b s' hI => ?_) e2.toList _ ⟨h2, n, [], rfl, sb02, rfl, by omega, R2.congr fun k => by simp⟩)
    · obtain ⟨h', c, done, rfl, sb', sp, cn, R'⟩ := hI
      obtain ⟨k, tk, ek, hk⟩ := g2 x (by rw [sp]; simp)
      obtain ⟨x1, x2⟩ := x
      cases (show x2 = .int k tk from ek)
      cases (show x1 = hashInt k from hk)
      rw [List.length_cons] at cn
      refine wpAny_bind (wpAny_holding (setR_add_hashed (P := P) (k := k) R' (by omega) fun h3 sb3 R3 => ?_))
      have sb4 := sb'.trans sb3
      refine wpAny_bind (he h3 sb4 ?_)
      obtain ⟨o4, ho4, hx4, hd4⟩ := ao.but (Ne.symm ne) sb4
      refine wpAny_bind (wpAny_setState_of ho4 hd4 To.fit ?_)
      refine wp_if_neg (by simp) (wpAny_pure ⟨h3, _, done ++ [(hashInt k, .int k tk)], rfl, sb4, by rw [sp, List.append_assoc]; rfl, ?_, R3.congr fun j => ?_⟩)
      · split <;> omega
      · rw [List.map_append, List.map_singleton, show keyOf (hashInt k, Value.int k tk) = k from rfl]
        rw [Bool.or_assoc, ← Bool.decide_or]
        simp only [List.mem_append, List.mem_singleton]
    · obtain ⟨h', c, done, rfl, sb', sp, cn, R'⟩ := hI
      rw [List.append_nil] at sp
      refine wpAny_pure (q h' c some_ sb' (by simpa using cn) (R'.congr fun k => ?_))
      congr 1
      rw [← sp]
      exact Bool.eq_iff_iff.mpr (((To.mem k).trans (p2.map keyOf).mem_iff.symm).trans decide_eq_true_iff.symm)
end
end So
namespace So
open PySem PySem.Spec PyProof.Rows L2
theorem slot_or : Slot "set" "__or__" "set.__or__" := .of (owner := "set") (n := "__or__") (by rw [typeLookup_type, builtinLookup_eq_fast]; kernel_rfl) (by decide +kernel) (by decide +kernel) (by decide +kernel) (by first | exact .inl (by decide +kernel) | exact .inr (by decide +kernel)) (by rw [isSubtype_type]; kernel_rfl)
theorem entry_or : entryFor table "set.__or__" = some Builtin.«frozenset.__or__» := entryFor_alias (id' := "frozenset.__or__") (by kernel_rfl) rfl (by decide +kernel) (by kernel_rfl)
theorem args_or (a b : Value) : argsOk "set.__or__" ⟨[a, b], []⟩ := by unfold argsOk; kernel_rfl
theorem fill_or : fillsNumberSlot (.type "set") "or" = pure true := fillsNumberSlot_of slot_or.lookup (by decide +kernel) (r := some (.builtin "set.__ror__")) (by rw [typeLookup_type, builtinLookup_eq_fast]; kernel_rfl)
section
variable {P : Program} {w : World} {A : Around} {E : Value → Shared → Prop} {s : Shared} {a b : Addr} {S U : Int → Bool} {n m : Nat}
theorem SetR.typ {h : Heap} (R : SetR w h a S n) : ∃ o, h.get? a = some o ∧ o.cls = .type "set" := by
  obtain ⟨o, es, ep, t, h1, h2, _⟩ := R
  exact ⟨o, h1, h2.1⟩
theorem anySet (ty : s.TypeIs (.ref a) "set") {Q : Bool → Shared → Prop} (q : Q true s) : wpAny (model P w) A (Builtin.Frozenset.isAnySet (.ref a)) Q E s := by
  unfold Builtin.Frozenset.isAnySet orM
  exact wpAny_bind (wpAny_isInstance (b := true) ty sub_set_self (wpAny_pure q))
theorem base (ty : s.TypeIs (.ref a) "set") {Q : Value → Shared → Prop} (q : Q (.type "set") s) : wpAny (model P w) A (Builtin.Frozenset.baseOf a) Q E s := by
  unfold Builtin.Frozenset.baseOf
  exact wpAny_bind (wpAny_isInstance (b := true) ty sub_set_self (wpAny_pure q))
def emptyO (w : World) : Obj := { cls := .type "set", dict := none, data := .set #[] 0 (.fresh 0 0 (!w.params.followText "set-order")) }
theorem new {Q : Value → Shared → Prop} (q : Q (.ref s.heap.objs.size) { s with heap := s.heap.push (emptyO w) }) : wpAny (model P w) A (newSet (.type "set")) Q E s := by
  unfold newSet
  refine wpAny_bind (wpAny_byText ?_)
  show wpAny _ _ (newObj (.type "set") _) _ _ _
  simp only [newObj]
  exact wpAny_bind (wpAny_alloc (wpAny_pure q))
theorem nodup_le : ∀ {l k : List Int}, l.Nodup → (∀ x ∈ l, x ∈ k) → l.length ≤ k.length
  | [], _, _, _ => Nat.zero_le _
  | x :: l, k, nd, h => by
    rw [List.nodup_cons] at nd
    have hx := h x List.mem_cons_self
    have ih := nodup_le (k := k.erase x) nd.2 fun y hy => (List.mem_erase_of_ne (by intro z; subst z; exact nd.1 hy)).mpr (h y (List.mem_cons_of_mem _ hy))
    have e := List.length_erase_of_mem hx
    have p := List.length_pos_of_mem hx
    rw [List.length_cons]
    omega
theorem Tab.le {S' : Int → Bool} {n' : Nat} {es es' : Array (Int × Value)} {t t' : SetTable} (T : Tab w S n es t) (T' : Tab w S' n' es' t') (h : ∀ k, S k = true → S' k = true) : n ≤ n' := by
  have q := nodup_le T.nd fun x hx => (T'.mem x).mp (h x ((T.mem x).mpr hx))
  rw [List.length_map, List.length_map, Array.length_toList, Array.length_toList, T.num, T'.num] at q
  exact q
def Old (h h' : Heap) : Prop := ∀ x o, x < h.objs.size → h.get? x = some o → h'.get? x = some o
theorem Old.of {h h' : Heap} {o : Obj} (sb : Heap.SameBut h.objs.size (h.push o) h') : Old h h' := fun x u lt e => (sb.2 x (Nat.ne_of_lt lt)).trans (Heap.get?_push_of_some _ e)
theorem At.old {h h' : Heap} {es : Array (Int × Value)} {ep : Nat} {t : SetTable} (x : At h a es ep t) (o : Old h h') : At h' a es ep t := by
  obtain ⟨u, h1, h2⟩ := x
  exact ⟨u, o a u (Heap.lt_size h1) h1, h2⟩
theorem fresh_at {h : Heap} : At (h.push (emptyO w)) h.objs.size #[] 0 (.fresh 0 0 (!w.params.followText "set-order")) ∧ Tab w (fun _ => false) 0 #[] (.fresh 0 0 (!w.params.followText "set-order")) := by
  refine ⟨⟨_, Heap.get?_push_size _ rfl, ⟨rfl, rfl, rfl⟩, rfl⟩, ⟨fun e he => by simp at he, by simp, fun k => by simp, by decide, by rfl, rfl, List.Pairwise.nil, ?_⟩⟩
  cases w.params.followText "set-order"
  · exact .inr rfl
  · exact .inl rfl
theorem copy (R : SetR w s.heap a S n) (few : n < 2000) {Q : Value → Shared → Prop}
    (q : ∀ h es ep t, At h s.heap.objs.size es ep t → Tab w S n es t → (n = 0 → M2 t.mask) → Old s.heap h → Q (.ref s.heap.objs.size) { s with heap := h }) : wpAny (model P w) A (Builtin.Frozenset.copyOf a) Q E s := by
  obtain ⟨es, ep, t, a0, T⟩ := setR_iff.mp R
  obtain ⟨o, ho, hx, _⟩ := id a0
  have lt := Heap.lt_size ho
  unfold Builtin.Frozenset.copyOf
  refine wpAny_bind (base ⟨o, ho, hx.1⟩ (wpAny_bind (new (wpAny_bind ?_))))
  unfold Builtin.Frozenset.addrOf
  refine wpAny_pure (wpAny_bind ?_)
  obtain ⟨f1, f2⟩ := fresh_at (w := w) (h := s.heap)
  have a1 : At (s.heap.push (emptyO w)) a es ep t := by
    obtain ⟨u, h1, h2⟩ := a0
    exact ⟨u, Heap.get?_push_of_some _ h1, h2⟩
  refine merge (s := { s with heap := s.heap.push (emptyO w) }) (Nat.ne_of_gt lt) f1 f2 a1 T (fun _ => show (7 : Nat) ∈ [7, 15, 31, 63, 127, 255, 511, 1023, 2047, 4095] by decide) (by omega) (fun h' Q' _ z => wpAny_pure z) fun h' c z sb cn R' => wpAny_pure ?_
  obtain ⟨es', ep', t', b0, T'⟩ := setR_iff.mp (R'.congr (S' := S) fun k => by simp)
  have e : c = n := by
    have := T.le T' fun _ h => h
    omega
  subst e
  refine q h' es' ep' t' b0 T' (fun n0 => ?_) (Old.of sb)
  have hh := z n0
  subst hh
  obtain ⟨u, u1, _, u2⟩ := b0
  obtain ⟨v, v1, _, v2⟩ := f1
  cases u1.symm.trans v1
  cases u2.symm.trans v2
  exact show (7 : Nat) ∈ [7, 15, 31, 63, 127, 255, 511, 1023, 2047, 4095] by decide
theorem or_sets (ab : a ≠ b) (R : SetR w s.heap a S n) (R2 : SetR w s.heap b U m) (few : n + m < 2000) {Q : Value → Shared → Prop}
    (q : ∀ (h : Heap) c, c ≤ n + m → SetR w h s.heap.objs.size (fun k => S k || U k) c → Old s.heap h → Q (.ref s.heap.objs.size) { s with heap := h }) :
    wpAny (model P w) A (binaryOp .BitOr (.ref a) (.ref b)) Q E s := by
  obtain ⟨oa, ha, ca⟩ := So.SetR.typ R
  obtain ⟨ob, hb, cb⟩ := So.SetR.typ R2
  refine wpAny_binaryOp_same (T := "set") ⟨oa, ha, ca⟩ ⟨ob, hb, cb⟩ fill_or slot_or (wpAny_call_entry slot_or ⟨oa, ha, ca⟩ entry_or ?_ (args_or _ _))
  show wpAny _ _ (Builtin.Frozenset.slot1 "__or__" _ >>= _) _ _ _
  refine wpAny_bind (wpAny_bind (m := slotArgs "__or__" 1 _) (wpAny_pure (wpAny_pure ?_)))
  dsimp only
  simp only [Bool.false_eq_true, if_false]
  unfold andM
  refine wpAny_bind (wpAny_bind (anySet ⟨oa, ha, ca⟩ (anySet ⟨ob, hb, cb⟩ ?_)))
  refine wp_if_neg (by simp) ?_
  unfold Builtin.Frozenset.addrOf
  refine wpAny_bind (wpAny_pure (wpAny_bind ?_))
  show wpAny _ _ (Builtin.Frozenset.copyOf a >>= _) _ _ _
  refine wpAny_bind (copy R (by omega) fun h es ep t a1 T hz old => ?_)
  obtain ⟨eb, pb, tb, b0, Tb⟩ := setR_iff.mp R2
  have b1 := b0.old old
  obtain ⟨ob1, hb1, hx1, hd1⟩ := id b1
  have lt := Heap.lt_size hb
  dsimp only
  refine wp_if_pos (by simp [ab.symm]) ?_
  unfold Builtin.Frozenset.addrOf
  refine wpAny_bind (wpAny_pure (wpAny_bind (wpAny_holding ?_)))
  unfold Builtin.Frozenset.updateFrom
  refine wpAny_bind (anySet ⟨ob1, hb1, hx1.1⟩ ?_)
  refine wp_if_pos rfl ?_
  unfold Builtin.Frozenset.addrOf
  refine wpAny_bind (wpAny_pure ?_)
  unfold Builtin.Frozenset.merge
  refine wpAny_bind (wpAny_setEpoch_of hb1 hd1 Tb.fit ?_)
  refine merge (s := { s with heap := h }) (Nat.ne_of_gt lt) a1 T b1 Tb hz few (fun h' Q' sb z => ?_) fun h' c _ sb cn R' => ?_
  · obtain ⟨o3, h3, _, d3⟩ := b1.but (Nat.ne_of_lt lt) sb
    unfold Builtin.Frozenset.unchanged
    refine wpAny_bind (wpAny_setEpoch_of h3 d3 Tb.fit ?_)
    exact wp_if_neg (by simp) (wpAny_pure z)
  · refine wpAny_pure (wpAny_pure ⟨_, rfl, (fun z => nomatch z), q h' c cn R' fun x o lx e => ?_⟩)
    exact (sb.2 x (Nat.ne_of_lt lx)).trans (old x o lx e)
end
end So
namespace So
open PySem PySem.Spec PyProof.Rows L2
theorem slot_and : Slot "set" "__and__" "set.__and__" := .of (owner := "set") (n := "__and__") (by rw [typeLookup_type, builtinLookup_eq_fast]; kernel_rfl) (by decide +kernel) (by decide +kernel) (by decide +kernel) (by first | exact .inl (by decide +kernel) | exact .inr (by decide +kernel)) (by rw [isSubtype_type]; kernel_rfl)
theorem entry_and : entryFor table "set.__and__" = some Builtin.«frozenset.__and__» := entryFor_alias (id' := "frozenset.__and__") (by kernel_rfl) rfl (by decide +kernel) (by kernel_rfl)
theorem args_and (a b : Value) : argsOk "set.__and__" ⟨[a, b], []⟩ := by unfold argsOk; kernel_rfl
theorem fill_and : fillsNumberSlot (.type "set") "and" = pure true := fillsNumberSlot_of slot_and.lookup (by decide +kernel) (r := some (.builtin "set.__rand__")) (by rw [typeLookup_type, builtinLookup_eq_fast]; kernel_rfl)
section
variable {P : Program} {w : World} {A : Around} {E : Value → Shared → Prop} {s : Shared} {a b r : Addr} {S U : Int → Bool} {n m : Nat}
/-- a walk that lays what it keeps into a new set -/
theorem walk_fill {h0 h1 : Heap} {keep : Int → Bool} {f : (Int × Value) → PUnit → Sem (ForInStep PUnit)} {l : List (Int × Value)} (gl : ∀ e ∈ l, GoodE e) (few : l.length < 2000)
    (body : ∀ (k : Int) (tk : Tok) (h' : Heap) (D : Int → Bool) (c : Nat) {Q' : ForInStep PUnit → Shared → Prop}, (hashInt k, Value.int k tk) ∈ l → Heap.SameBut r h0 h' → SetR w h' r D c → c < 2000 →
      (∀ h2 c2, Heap.SameBut r h0 h2 → c2 ≤ c + 1 → SetR w h2 r (fun j => D j || (keep j && decide (j = k))) c2 → Q' (.yield ⟨⟩) { s with heap := h2 }) → wpAny (model P w) A (f (hashInt k, .int k tk) ⟨⟩) Q' E { s with heap := h' })
    (R : SetR w h1 r (fun _ => false) 0) (sb1 : Heap.SameBut r h0 h1) {Q : PUnit → Shared → Prop}
    (q : ∀ h2 c, Heap.SameBut r h0 h2 → c ≤ l.length → SetR w h2 r (fun j => keep j && decide (j ∈ l.map keyOf)) c → Q ⟨⟩ { s with heap := h2 }) : wpAny (model P w) A (forIn l PUnit.unit f) Q E { s with heap := h1 } := by
  refine wpAny_forIn_list _ (fun rest _ s' => ∃ h2 c done, s' = { s with heap := h2 } ∧ Heap.SameBut r h0 h2 ∧ l = done ++ rest ∧ c + rest.length ≤ l.length ∧ SetR w h2 r (fun j => keep j && decide (j ∈ done.map keyOf)) c)
    _ (fun x rest u s' hI => ?_) (fun u s' hI => ?_) l _ ⟨h1, 0, [], rfl, sb1, rfl, by omega, R.congr fun k => by simp⟩
  · obtain ⟨h2, c, done, rfl, sb2, sp, cn, R2⟩ := hI
    have xin : x ∈ l := by rw [sp]; simp
    obtain ⟨k, tk, ek, hk⟩ := gl x xin
    obtain ⟨x1, x2⟩ := x
    cases (show x2 = .int k tk from ek)
    cases (show x1 = hashInt k from hk)
    rw [List.length_cons] at cn
    refine body k tk h2 _ c xin sb2 R2 (by omega) fun h3 c3 sb3 le R3 => ⟨h3, c3, done ++ [(hashInt k, .int k tk)], rfl, sb3, by rw [sp, List.append_assoc]; rfl, by omega, R3.congr fun j => ?_⟩
    rw [List.map_append, List.map_singleton, show keyOf (hashInt k, Value.int k tk) = k from rfl, ← Bool.and_or_distrib_left, ← Bool.decide_or]
    simp only [List.mem_append, List.mem_singleton]
  · obtain ⟨h2, c, done, rfl, sb2, sp, cn, R2⟩ := hI
    rw [List.append_nil] at sp
    subst sp
    exact q h2 c sb2 (by simpa using cn) R2
theorem sizeOf_set {Q : Nat → Shared → Prop} {es : Array (Int × Value)} {ep : Nat} {t : SetTable} (a0 : At s.heap a es ep t) (T : Tab w S n es t) (q : Q n s) : wpAny (model P w) A (Builtin.Frozenset.sizeOf a) Q E s := by
  obtain ⟨o, ho, _, hd⟩ := a0
  unfold Builtin.Frozenset.sizeOf
  refine wpAny_bind (wpAny_setEntries_of ho hd T.fit (wpAny_pure ?_))
  rw [T.num]
  exact q
theorem unchanged_set {id : String} {es : Array (Int × Value)} {ep : Nat} {t : SetTable} (a0 : At s.heap a es ep t) (T : Tab w S n es t) {Q : Unit → Shared → Prop} (q : Q () s) : wpAny (model P w) A (Builtin.Frozenset.unchanged id a ep) Q E s := by
  obtain ⟨o, ho, _, hd⟩ := a0
  unfold Builtin.Frozenset.unchanged
  exact wpAny_bind (wpAny_setEpoch_of ho hd T.fit (wp_if_neg (by simp) (wpAny_pure q)))
theorem and_sets (ab : a ≠ b) (R : SetR w s.heap a S n) (R2 : SetR w s.heap b U m) (fn : n < 2000) (fm : m < 2000) {Q : Value → Shared → Prop}
    (q : ∀ (h : Heap) c, c ≤ n → SetR w h s.heap.objs.size (fun k => S k && U k) c → Old s.heap h → Q (.ref s.heap.objs.size) { s with heap := h }) :
    wpAny (model P w) A (binaryOp .BitAnd (.ref a) (.ref b)) Q E s := by
  obtain ⟨oa, ha, ca⟩ := So.SetR.typ R
  obtain ⟨ob, hb, cb⟩ := So.SetR.typ R2
  have la := Heap.lt_size ha
  have lb := Heap.lt_size hb
  refine wpAny_binaryOp_same (T := "set") ⟨oa, ha, ca⟩ ⟨ob, hb, cb⟩ fill_and slot_and (wpAny_call_entry slot_and ⟨oa, ha, ca⟩ entry_and ?_ (args_and _ _))
  show wpAny _ _ (Builtin.Frozenset.slot1 "__and__" _ >>= _) _ _ _
  refine wpAny_bind (wpAny_bind (m := slotArgs "__and__" 1 _) (wpAny_pure (wpAny_pure ?_)))
  dsimp only
  simp only [Bool.false_eq_true, if_false]
  unfold andM
  refine wpAny_bind (wpAny_bind (anySet ⟨oa, ha, ca⟩ (anySet ⟨ob, hb, cb⟩ ?_)))
  refine wp_if_neg (by simp) ?_
  unfold Builtin.Frozenset.addrOf
  refine wpAny_bind (wpAny_pure (wpAny_bind ?_))
  unfold Builtin.Frozenset.intersection
  refine wp_if_neg (by simp [ab.symm]) ?_
  refine wpAny_bind (base ⟨oa, ha, ca⟩ (wpAny_bind (new ?_)))
  obtain ⟨f1, f2⟩ := fresh_at (w := w) (h := s.heap)
  obtain ⟨es, ep, t, a0, T⟩ := setR_iff.mp R
  obtain ⟨eb, pb, tb, b0, Tb⟩ := setR_iff.mp R2
  have old : Old s.heap (s.heap.push (emptyO w)) := Old.of (Heap.SameBut.refl ..)
  have a1 := a0.old old
  have b1 := b0.old old
  unfold Builtin.Frozenset.addrOf
  refine wpAny_bind (wpAny_pure (wpAny_bind (wpAny_holding ?_)))
  obtain ⟨ob1, hb1, hx1, hd1⟩ := id b1
  refine wpAny_bind (anySet (s := { s with heap := s.heap.push (emptyO w) }) ⟨ob1, hb1, hx1.1⟩ ?_)
  refine wp_if_pos rfl ?_
  refine wpAny_bind (wpAny_pure (wpAny_bind (sizeOf_set (s := { s with heap := s.heap.push (emptyO w) }) b1 Tb (wpAny_bind (sizeOf_set (s := { s with heap := s.heap.push (emptyO w) }) a1 T ?_)))))
  obtain ⟨k, d, Sk, Sd, nk, nd, ek, pk, tk, ed, pd, td, hp, k1, Tk, d1, Td, kr, dr, hS, le⟩ : ∃ (k d : Addr) (Sk Sd : Int → Bool) (nk nd : Nat) (ek : Array (Int × Value)) (pk : Nat) (tk : SetTable) (ed : Array (Int × Value)) (pd : Nat) (td : SetTable),
      (if m > n then (b, a) else (a, b)) = (k, d) ∧ At (s.heap.push (emptyO w)) k ek pk tk ∧ Tab w Sk nk ek tk ∧ At (s.heap.push (emptyO w)) d ed pd td ∧ Tab w Sd nd ed td ∧ k ≠ s.heap.objs.size ∧ d ≠ s.heap.objs.size ∧ (∀ j, (Sk j && Sd j) = (S j && U j)) ∧ nd ≤ n := by
    by_cases c : m > n
    · exact ⟨b, a, U, S, m, n, eb, pb, tb, es, ep, t, if_pos c, b1, Tb, a1, T, Nat.ne_of_lt lb, Nat.ne_of_lt la, fun j => Bool.and_comm .., Nat.le_refl _⟩
    · exact ⟨a, b, S, U, n, m, es, ep, t, eb, pb, tb, if_neg c, a1, T, b1, Tb, Nat.ne_of_lt la, Nat.ne_of_lt lb, fun j => rfl, by omega⟩
  rw [hp]
  dsimp only
  obtain ⟨od, hd, xd, dd⟩ := id d1
  refine wpAny_bind (wpAny_setEpoch_of (s := { s with heap := s.heap.push (emptyO w) }) hd dd Td.fit ?_)
  have F : SetR w (s.heap.push (emptyO w)) s.heap.objs.size (fun _ => false) 0 := setR_iff.mpr ⟨_, _, _, f1, f2⟩
  refine wpAny_bind (walk_unseen (s := { s with heap := s.heap.push (emptyO w) }) d1 Td F dr (fun x hx => ?_) fun h2 e2 sb2 R3 p2 => ?_)
  · rcases List.mem_cons.mp hx with rfl | hx
    · exact ⟨_, _, setR_iff.mpr ⟨_, _, _, k1, Tk⟩⟩
    · cases List.mem_singleton.mp hx
      exact ⟨_, _, F⟩
  rw [← Array.forIn_toList]
  have l2 : e2.toList.length = nd := by rw [p2.length_eq, Array.length_toList, Td.num]
  have sc : scanBound = 4096 := rfl
  refine wpAny_bind (walk_fill (keep := Sk) (h0 := s.heap.push (emptyO w)) (h1 := h2) (s := s) (fun e z => Td.g e (p2.mem_iff.mp z)) (by omega) (fun j tj h' D c Q' mj sb' R' cl kk => ?_) R3 sb2 fun h3 c sb3 cn R4 => ?_)
  · dsimp only
    have k2 := k1.but kr sb'
    refine wpAny_bind (wpAny_holding (wpAny_bind (wpAny_setFind_of (s := { s with heap := h' }) (knd := intKind P w) (intKind_is P w j tj) rfl (setR_iff.mpr ⟨_, _, _, k2, Tk⟩ : SetR w h' k Sk nk).setOf fun rr hr => ?_)))
    cases hk : Sk j with
    | true =>
      refine wp_if_pos (by rw [hr, hk]) (wpAny_bind (setR_add_hashed (P := P) (s := { s with heap := h' }) R' (by omega) fun h4 sb4 R5 => wpAny_pure ?_))
      refine wpAny_bind (unchanged_set (s := { s with heap := h4 }) (d1.but dr (sb'.trans sb4)) Td (wpAny_pure (kk h4 _ (sb'.trans sb4) (by split <;> omega) (R5.congr fun i => ?_))))
      by_cases ij : i = j
      · subst ij; simp [hk]
      · simp [ij]
    | false =>
      refine wp_if_neg (by rw [hr, hk]; simp) (wpAny_pure ?_)
      refine wpAny_bind (unchanged_set (s := { s with heap := h' }) (d1.but dr sb') Td (wpAny_pure (kk h' c sb' (by omega) (R'.congr fun i => ?_))))
      by_cases ij : i = j
      · subst ij; simp [hk]
      · simp [ij]
  · refine wpAny_pure (wpAny_pure (wpAny_pure ⟨_, rfl, (fun z => nomatch z), q h3 c (by omega) (R4.congr fun j => ?_) (Old.of sb3)⟩))
    rw [← hS]
    congr 1
    exact Bool.eq_iff_iff.mpr (((Td.mem j).trans (p2.map keyOf).mem_iff.symm).trans decide_eq_true_iff.symm)
end
end So
namespace So
open PySem PySem.Spec PyProof.Rows L2
theorem erase_list {α : Type} (xs : Array α) (j : Nat) : (SetTable.eraseAt xs j).toList = xs.toList.take j ++ xs.toList.drop (j + 1) := by
  unfold SetTable.eraseAt
  rw [Array.toList_append, Array.toList_extract, Array.toList_extract]
  simp only [List.extract_eq_drop_take, Nat.sub_zero, List.drop_zero]
  rw [List.take_of_length_le (i := xs.size - (j + 1)) (by rw [List.length_drop, Array.length_toList]; omega)]
theorem erase_perm {α : Type} {l : List α} {j : Nat} (h : j < l.length) : l.Perm (l[j] :: (l.take j ++ l.drop (j + 1))) := by
  have e : l = l.take j ++ l[j] :: l.drop (j + 1) := by rw [List.getElem_cons_drop, List.take_append_drop]
  have p : (l.take j ++ l[j] :: l.drop (j + 1)).Perm (l[j] :: (l.take j ++ l.drop (j + 1))) := List.perm_middle
  exact (List.Perm.of_eq e).trans p
theorem drop_tab {t : SetTable} {j n : Nat} (f : t.fits n = true) (h : j < n) (r : Ris t.place.toList) : (t.drop j).fits (n - 1) = true ∧ Ris (t.drop j).place.toList ∧ (t.drop j).led = t.led := by
  obtain ⟨f1, f2⟩ := fits_iff.mp f
  have hj : j < t.place.size := by omega
  unfold SetTable.drop
  rw [Array.getElem?_eq_getElem hj]
  dsimp only
  have z : (SetTable.eraseAt t.place j).size = n - 1 := by
    rw [← Array.length_toList, erase_list, List.length_append, List.length_take, List.length_drop, Array.length_toList]
    omega
  have y : ∀ p x, p ≤ t.dummies.size → (SetTable.insertAt t.dummies p x).size = t.dummies.size + 1 := fun p x hp => by
    unfold SetTable.insertAt
    rw [Array.size_append, Array.size_push, Array.size_extract, Array.size_extract]
    omega
  have b : ∀ (f lo hi : Nat), lo ≤ hi → SetTable.below.go t.dummies t.place[j] f lo hi ≤ hi := fun f => by
    induction f with
    | zero => exact fun lo hi h => h
    | succ f ih =>
      intro lo hi h
      unfold SetTable.below.go
      split
      · dsimp only
        split
        · exact ih _ _ (by omega)
        · exact Nat.le_trans (ih _ _ (by omega)) (by omega)
      · exact h
  refine ⟨fits_iff.mpr ⟨z, ?_⟩, ?_, rfl⟩
  · show (SetTable.eraseAt t.place j).size + (SetTable.insertAt t.dummies (SetTable.below t.dummies t.place[j]) t.place[j]).size ≤ t.mask
    have bb : SetTable.below t.dummies t.place[j] ≤ t.dummies.size := b _ _ _ (Nat.zero_le _)
    rw [z, y _ _ bb]
    omega
  · show Ris (SetTable.eraseAt t.place j).toList
    rw [erase_list]
    have sub : (t.place.toList.take j ++ t.place.toList.drop (j + 1)).Sublist t.place.toList := by
      have e := List.take_append_drop j t.place.toList
      refine e ▸ ?_
      rw [e]
      conv => rhs; rw [← e]
      exact List.Sublist.append_left (List.drop_sublist_drop_left _ (Nat.le_succ j)) _
    exact List.Pairwise.sublist sub r
section
variable {P : Program} {w : World} {A : Around} {E : Value → Shared → Prop} {s : Shared} {a b r : Addr} {S U : Int → Bool} {n m : Nat}
theorem discard {k : Int} {tk : Tok} (R : SetR w s.heap a S n) {Q : Bool → Shared → Prop} (q : ∀ h' x c, Heap.SameBut a s.heap h' → c ≤ n → SetR w h' a (fun j => S j && !decide (j = k)) c → Q x { s with heap := h' }) :
    wpAny (model P w) A (setDiscardHashed a (.int k tk) (hashInt k)) Q E s := by
  obtain ⟨es, ep, t, a0, T⟩ := setR_iff.mp R
  obtain ⟨o, ho, hx, hd⟩ := id a0
  have hkey : (intKind P w).is k (.int k tk) = true := intKind_is P w k tk
  have hel : ElemsOf (intKind P w) es.toList := good_elems T.g
  unfold setDiscardHashed setFind setFindIn
  refine wpAny_bind (wpAny_bind (wpAny_setState_of ho hd T.fit ?_))
  dsimp only
  rw [byScan_of rfl T.bd hel]
  simp only [↓reduceIte]
  refine wpAny_bind (wpAny_rule (wpAny_bind (wpAny_setScan_of hkey ho hd T.fit hel ?_)))
  cases hr : List.findIdx? (fun e => (intKind P w).is k e.2) es.toList with
  | none =>
    refine wpAny_pure (wpAny_pure (q s.heap false n (Heap.SameBut.refl ..) (Nat.le_refl _) (R.congr fun j => ?_)))
    by_cases jk : j = k
    · subst jk
      have z : S j = false := Bool.eq_false_iff.mpr fun y => by
        obtain ⟨e, he, pe⟩ := (good_mem (P := P) (w := w) T.g j).mp ((T.mem j).mp y)
        have c := List.findIdx?_eq_none_iff.mp hr e he
        rw [pe] at c
        cases c
      rw [z, Bool.false_and]
    · simp [jk]
  | some j =>
    obtain ⟨hj, pj, _⟩ := List.findIdx?_eq_some_iff_getElem.mp hr
    have kj : keyOf es.toList[j] = k := (good_is (T.g _ (List.getElem_mem hj)) k).mp pj
    refine wpAny_pure ?_
    refine wpAny_bind (wpAny_setState_of ho hd T.fit ?_)
    dsimp only
    rw [Nat.zero_add]
    have pp := erase_perm hj
    rw [← erase_list] at pp
    have pk := pp.map keyOf
    rw [List.map_cons, kj] at pk
    have nd := pk.nodup_iff.mp T.nd
    rw [List.nodup_cons] at nd
    have sz : (SetTable.eraseAt es j).size = n - 1 := by
      have l := pp.length_eq
      rw [List.length_cons, Array.length_toList, Array.length_toList, T.num] at l
      omega
    have hn : j < n := by rw [← T.num, ← Array.length_toList]; exact hj
    obtain ⟨d1, d2, d3⟩ := drop_tab (by rw [← T.num]; exact T.fit) hn T.ris
    have sc := fits_of_scanBound T.bd
    refine wpAny_bind (wpAny_storeSet_of ho hd (wpAny_bind (wpAny_point (wpAny_pure (q _ true (n - 1) (Heap.SameBut.update ..) (by omega) (setR_iff.mpr ⟨_, _, _, ⟨_, store_at ho hd, ⟨hx.1, hx.2.1, hx.2.2⟩, rfl⟩, ?_⟩))))) (by rw [sz, ← T.num]; omega))
    refine ⟨fun e he => T.g e (pp.mem_iff.mpr (List.mem_cons_of_mem _ he)), nd.2, fun i => ?_, by rw [sz]; have := T.bd; rw [T.num] at this; omega, by rw [sz]; exact d1, sz, d2, by rw [d3]; exact T.led⟩
    rw [Bool.and_eq_true, T.mem i, pk.mem_iff, List.mem_cons, Bool.not_eq_true', decide_eq_false_iff_not]
    constructor
    · rintro ⟨x | x, y⟩
      · exact absurd x y
      · exact x
    · exact fun x => ⟨.inr x, fun y => nd.1 (y ▸ x)⟩
end
end So
namespace So
open PySem PySem.Spec PyProof.Rows L2
theorem slot_sub : Slot "set" "__sub__" "set.__sub__" := .of (owner := "set") (n := "__sub__") (by rw [typeLookup_type, builtinLookup_eq_fast]; kernel_rfl) (by decide +kernel) (by decide +kernel) (by decide +kernel) (by first | exact .inl (by decide +kernel) | exact .inr (by decide +kernel)) (by rw [isSubtype_type]; kernel_rfl)
theorem entry_sub : entryFor table "set.__sub__" = some Builtin.«frozenset.__sub__» := entryFor_alias (id' := "frozenset.__sub__") (by kernel_rfl) rfl (by decide +kernel) (by kernel_rfl)
theorem args_sub (a b : Value) : argsOk "set.__sub__" ⟨[a, b], []⟩ := by unfold argsOk; kernel_rfl
theorem fill_sub : fillsNumberSlot (.type "set") "sub" = pure true := fillsNumberSlot_of slot_sub.lookup (by decide +kernel) (r := some (.builtin "set.__rsub__")) (by rw [typeLookup_type, builtinLookup_eq_fast]; kernel_rfl)
section
variable {P : Program} {w : World} {A : Around} {E : Value → Shared → Prop} {s : Shared} {a b r : Addr} {S U : Int → Bool} {n m : Nat}
theorem walk_alone {l : List Addr} {es : Array (Int × Value)} {ep : Nat} {t : SetTable} (a0 : At s.heap a es ep t) (T : Tab w S n es t) (hl : ∀ b ∈ l, ∃ S n, SetR w s.heap b S n) {Q : Array (Int × Value) → Shared → Prop}
    (q : ∀ es' : Array (Int × Value), es'.toList.Perm es.toList → Q es' s) : wpAny (model P w) A (setWalkUnseen a l none) Q E s := by
  obtain ⟨o, ho, hx, hd⟩ := id a0
  unfold setWalkUnseen
  refine wpAny_bind (wpAny_setState_of ho hd T.fit ?_)
  dsimp only
  refine wpAny_bind (wpAny_byText ?_)
  by_cases c : (w.params.followText "set-order" || t.led && t.plain || decide (es.size ≤ 1)) = true
  · refine wp_if_pos c (walk_es a0 T ?_ q)
    rw [Bool.or_eq_true, Bool.or_eq_true, Bool.and_eq_true, decide_eq_true_eq] at c
    rcases c with (c | c) | c
    · exact .inl c
    · exact .inr (.inl c.2)
    · exact .inr (.inr c)
  · refine wp_if_neg c (wpAny_bind (quiet (fun b hb => ?_) ?_))
    · rcases List.mem_cons.mp hb with rfl | hb
      · exact ⟨S, n, setR_iff.mpr ⟨es, ep, t, a0, T⟩⟩
      · exact hl b hb
    refine wp_if_neg (by simp) ?_
    exact wpAny_bind (wpAny_rule (wpAny_pure (q es (.refl _))))
theorem tidy (few : n < 1000) (R : SetR w s.heap a S n) {Q : Unit → Shared → Prop} (q : ∀ h', Heap.SameBut a s.heap h' → SetR w h' a S n → Q () { s with heap := h' }) : wpAny (model P w) A (setTidy a) Q E s := by
  obtain ⟨es, ep, t, a0, T⟩ := setR_iff.mp R
  obtain ⟨o, ho, hx, hd⟩ := id a0
  unfold setTidy
  refine wpAny_bind (wpAny_setState_of ho hd T.fit ?_)
  dsimp only
  by_cases c : t.tooManyDummies = true
  · refine wp_if_pos c ?_
    have e : SetTable.grown es.size = (2 * n) * 2 := by
      unfold SetTable.grown
      rw [if_neg (by rw [T.num]; omega), T.num]
      omega
    rw [e]
    exact relay (by omega) (by omega) a0 T fun h' es' t' sb a1 T1 _ _ => q h' sb (setR_iff.mpr ⟨_, _, _, a1, T1⟩)
  · exact wp_if_neg c (wpAny_pure (q s.heap (Heap.SameBut.refl ..) R))
/-- set a loses what set b holds -/
theorem lose {nm : String} (ab : a ≠ b) (R : SetR w s.heap a S n) (R2 : SetR w s.heap b U m) (few : n < 1000) (le : ¬ m / 8 > n) {Q : Unit → Shared → Prop}
    (q : ∀ h' c, Heap.SameBut a s.heap h' → c ≤ n → SetR w h' a (fun k => S k && !U k) c → Q () { s with heap := h' }) : wpAny (model P w) A (Builtin.Frozenset.differenceUpdate nm a (.ref b)) Q E s := by
  obtain ⟨es, ep, t, a0, T⟩ := setR_iff.mp R
  obtain ⟨eb, pb, tb, b0, Tb⟩ := setR_iff.mp R2
  obtain ⟨ob, hb, hx, hd⟩ := id b0
  unfold Builtin.Frozenset.differenceUpdate
  refine wp_if_neg (by simp [ab.symm]) ?_
  refine wpAny_bind (anySet ⟨ob, hb, hx.1⟩ ?_)
  refine wp_if_pos rfl ?_
  unfold Builtin.Frozenset.addrOf
  refine wpAny_bind (wpAny_pure (wpAny_bind (sizeOf_set b0 Tb (wpAny_bind (sizeOf_set a0 T ?_)))))
  dsimp only
  refine wp_if_neg le ?_
  refine wpAny_bind (wpAny_setEpoch_of hb hd Tb.fit ?_)
  refine wpAny_bind (wpAny_holding (wpAny_bind (walk_alone b0 Tb (fun x hx => ?_) fun e2 p2 => ?_)))
  · cases List.mem_singleton.mp hx
    exact ⟨_, _, R⟩
  rw [← Array.forIn_toList]
  refine wpAny_bind (wpAny_forIn_list _ (fun rest _ s' => ∃ h2 c done, s' = { s with heap := h2 } ∧ Heap.SameBut a s.heap h2 ∧ e2.toList = done ++ rest ∧ c ≤ n ∧ SetR w h2 a (fun j => S j && !decide (j ∈ done.map keyOf)) c)
    _ (fun x rest u s' hI => ?_) (fun u s' hI => ?_) e2.toList _ ⟨s.heap, n, [], rfl, Heap.SameBut.refl .., rfl, Nat.le_refl _, R.congr fun k => by simp⟩)
  · obtain ⟨h2, c, done, rfl, sb2, sp, cn, R3⟩ := hI
    obtain ⟨k, tk, ek, hk⟩ := Tb.g x (p2.mem_iff.mp (by rw [sp]; simp))
    obtain ⟨x1, x2⟩ := x
    cases (show x2 = .int k tk from ek)
    cases (show x1 = hashInt k from hk)
    refine wpAny_bind (wpAny_holding (discard (s := { s with heap := h2 }) R3 fun h3 _ c3 sb3 le3 R4 => ?_))
    have sb4 := sb2.trans sb3
    refine wpAny_bind (unchanged_set (s := { s with heap := h3 }) (b0.but (Ne.symm ab) sb4) Tb (wpAny_pure ⟨h3, c3, done ++ [(hashInt k, .int k tk)], rfl, sb4, by rw [sp, List.append_assoc]; rfl, by omega, R4.congr fun j => ?_⟩))
    rw [List.map_append, List.map_singleton, show keyOf (hashInt k, Value.int k tk) = k from rfl, Bool.and_assoc, ← Bool.not_or, ← Bool.decide_or]
    simp only [List.mem_append, List.mem_singleton]
  · obtain ⟨h2, c, done, rfl, sb2, sp, cn, R3⟩ := hI
    rw [List.append_nil] at sp
    refine wpAny_pure (tidy (s := { s with heap := h2 }) (by omega) R3 fun h3 sb3 R4 => q h3 c (sb2.trans sb3) cn (R4.congr fun j => ?_))
    congr 2
    rw [← sp]
    exact Bool.eq_iff_iff.mpr (((Tb.mem j).trans (p2.map keyOf).mem_iff.symm).trans decide_eq_true_iff.symm)
theorem sub_sets (ab : a ≠ b) (R : SetR w s.heap a S n) (R2 : SetR w s.heap b U m) (fn : n < 2000) (fm : m < 2000) (alt : n < 1000 ∨ n / 4 ≤ m) {Q : Value → Shared → Prop}
    (q : ∀ (h : Heap) c, c ≤ n → SetR w h s.heap.objs.size (fun k => S k && !U k) c → Old s.heap h → Q (.ref s.heap.objs.size) { s with heap := h }) :
    wpAny (model P w) A (binaryOp .Sub (.ref a) (.ref b)) Q E s := by
  obtain ⟨oa, ha, ca⟩ := So.SetR.typ R
  obtain ⟨ob, hb, cb⟩ := So.SetR.typ R2
  have la := Heap.lt_size ha
  have lb := Heap.lt_size hb
  refine wpAny_binaryOp_same (T := "set") ⟨oa, ha, ca⟩ ⟨ob, hb, cb⟩ fill_sub slot_sub (wpAny_call_entry slot_sub ⟨oa, ha, ca⟩ entry_sub ?_ (args_sub _ _))
  show wpAny _ _ (Builtin.Frozenset.slot1 "__sub__" _ >>= _) _ _ _
  refine wpAny_bind (wpAny_bind (m := slotArgs "__sub__" 1 _) (wpAny_pure (wpAny_pure ?_)))
  dsimp only
  simp only [Bool.false_eq_true, if_false]
  unfold andM
  refine wpAny_bind (wpAny_bind (anySet ⟨oa, ha, ca⟩ (anySet ⟨ob, hb, cb⟩ ?_)))
  refine wp_if_neg (by simp) ?_
  unfold Builtin.Frozenset.addrOf
  refine wpAny_bind (wpAny_pure (wpAny_bind ?_))
  unfold Builtin.Frozenset.difference
  dsimp only
  refine wpAny_bind (anySet ⟨ob, hb, cb⟩ ?_)
  simp only [Bool.not_true, Bool.false_eq_true, if_false, if_true, Bool.false_and]
  obtain ⟨es, ep, t, a0, T⟩ := setR_iff.mp R
  obtain ⟨eb, pb, tb, b0, Tb⟩ := setR_iff.mp R2
  unfold Builtin.Frozenset.addrOf
  refine wpAny_bind (wpAny_pure (wpAny_bind (sizeOf_set b0 Tb (wpAny_bind (sizeOf_set a0 T ?_)))))
  by_cases big : n / 4 > m
  · refine wp_if_pos big (wpAny_bind (wpAny_rule ?_))
    refine wpAny_bind (copy R (by omega) fun h es1 ep1 t1 r1 T1 _ old => ?_)
    refine wpAny_bind (wpAny_pure (wpAny_bind (wpAny_holding ?_)))
    refine lose (s := { s with heap := h }) (Nat.ne_of_gt lb) (setR_iff.mpr ⟨_, _, _, r1, T1⟩) (setR_iff.mpr ⟨_, _, _, b0.old old, Tb⟩) (by omega) (by omega) fun h2 c sb cn R4 => ?_
    refine wpAny_pure (wpAny_pure ⟨_, rfl, (fun z => nomatch z), q h2 c cn R4 fun x o lx e => ?_⟩)
    exact (sb.2 x (Nat.ne_of_lt lx)).trans (old x o lx e)
  · refine wp_if_neg big (wpAny_bind (base ⟨oa, ha, ca⟩ (wpAny_bind (new ?_))))
    obtain ⟨f1, f2⟩ := fresh_at (w := w) (h := s.heap)
    have old : Old s.heap (s.heap.push (emptyO w)) := Old.of (Heap.SameBut.refl ..)
    have a1 := a0.old old
    have b1 := b0.old old
    refine wpAny_bind (wpAny_pure ?_)
    obtain ⟨od, hd, xd, dd⟩ := id a1
    refine wpAny_bind (wpAny_setEpoch_of (s := { s with heap := s.heap.push (emptyO w) }) hd dd T.fit ?_)
    have F : SetR w (s.heap.push (emptyO w)) s.heap.objs.size (fun _ => false) 0 := setR_iff.mpr ⟨_, _, _, f1, f2⟩
    have na : a ≠ s.heap.objs.size := Nat.ne_of_lt la
    have nb : b ≠ s.heap.objs.size := Nat.ne_of_lt lb
    refine wpAny_bind (wpAny_holding (wpAny_bind (walk_unseen (s := { s with heap := s.heap.push (emptyO w) }) a1 T F na (fun x hx => ?_) fun h2 e2 sb2 R3 p2 => ?_)))
    · rcases List.mem_cons.mp hx with rfl | hx
      · exact ⟨_, _, setR_iff.mpr ⟨_, _, _, b1, Tb⟩⟩
      · cases List.mem_singleton.mp hx
        exact ⟨_, _, F⟩
    rw [← Array.forIn_toList]
    have l2 : e2.toList.length = n := by rw [p2.length_eq, Array.length_toList, T.num]
    have sc : scanBound = 4096 := rfl
    refine wpAny_bind (walk_fill (keep := fun j => !U j) (h0 := s.heap.push (emptyO w)) (h1 := h2) (s := s) (fun e z => T.g e (p2.mem_iff.mp z)) (by omega) (fun j tj h' D c Q' mj sb' R' cl kk => ?_) R3 sb2 fun h3 c sb3 cn R4 => ?_)
    · dsimp only
      have k2 := b1.but nb sb'
      have fin : ∀ {h4 : Heap} {c4 : Nat}, Heap.SameBut s.heap.objs.size (s.heap.push (emptyO w)) h4 → c4 ≤ c + 1 → SetR w h4 s.heap.objs.size (fun i => D i || (!U i && decide (i = j))) c4 → wpAny (model P w) A.in1 (Builtin.Frozenset.unchanged (toString "frozenset." ++ toString "__sub__") a ep) (fun _ s' => wpAny (model P w) A.in1 (pure (ForInStep.yield PUnit.unit)) Q' E s') E { s with heap := h4 } := fun sb4 le R5 =>
        unchanged_set (s := { s with heap := _ }) (a1.but na sb4) T (wpAny_pure (kk _ _ sb4 le R5))
      refine wpAny_bind (wpAny_holding (wpAny_bind (wpAny_setFind_of (s := { s with heap := h' }) (knd := intKind P w) (intKind_is P w j tj) rfl (setR_iff.mpr ⟨_, _, _, k2, Tb⟩ : SetR w h' b U m).setOf fun rr hr => wpAny_bind (wpAny_pure ?_))))
      cases hk : U j with
      | false =>
        refine wp_if_pos (by rw [hr, hk]; rfl) (wpAny_bind (setR_add_hashed (P := P) (s := { s with heap := h' }) R' (by omega) fun h4 sb4 R5 => wpAny_pure ?_))
        refine wpAny_bind (fin (c4 := _) (sb'.trans sb4) (by split <;> omega) (R5.congr fun i => ?_))
        by_cases ij : i = j
        · subst ij; simp [hk]
        · simp [ij]
      | true =>
        refine wp_if_neg (by rw [hr, hk]; simp) (wpAny_pure ?_)
        refine wpAny_bind (fin sb' (Nat.le_succ _) (R'.congr fun i => ?_))
        by_cases ij : i = j
        · subst ij; simp [hk]
        · simp [ij]
    · refine wpAny_pure (wpAny_pure (wpAny_pure ⟨_, rfl, (fun z => nomatch z), q h3 c (by omega) (R4.congr fun j => ?_) (Old.of sb3)⟩))
      rw [Bool.and_comm]
      congr 1
      exact Bool.eq_iff_iff.mpr (((T.mem j).trans (p2.map keyOf).mem_iff.symm).trans decide_eq_true_iff.symm)
end
end So

namespace So
open PySem PySem.Spec PyProof.Rows L2
section
variable {X : Cx}
/-- a | b, a & b, a - b of two sets of ints -/
def rSO (w : World) (f : Bool → Bool → Bool) : R2 := fun x y H Q => ∃ a b S U n m, x = .ref a ∧ y = .ref b ∧ a ≠ b ∧ H a = some (SetO w a S n) ∧ H b = some (SetO w b U m) ∧ n < 1000 ∧ m < 1000 ∧
  ∀ p c, c ≤ n + m → H p = none → Q (.ref p) (upd H p (SetO w p (fun k => f (S k) (U k)) c))
theorem op_or : OpR X (binaryOp .BitOr) (rSO X.w fun x y => x || y) := by
  intro pins s σ H x y v u Q I rx ry h
  obtain ⟨a, b, S, U, n, m, rfl, rfl, ab, ha, hb, hn, hm, k⟩ := h
  cases rx
  cases ry
  refine or_sets ab (setO_get I ha) (setO_get I hb) (by omega) fun h c hc R old => ?_
  exact ⟨.ref _, _, I.laid (t' := s.toks) (fun x o e => old x o (Heap.lt_size e) e) (Nat.le_refl _) (setO_new R), rfl, k _ c hc (I.hok.fresh (Nat.le_refl _))⟩
theorem op_and : OpR X (binaryOp .BitAnd) (rSO X.w fun x y => x && y) := by
  intro pins s σ H x y v u Q I rx ry h
  obtain ⟨a, b, S, U, n, m, rfl, rfl, ab, ha, hb, hn, hm, k⟩ := h
  cases rx
  cases ry
  refine and_sets ab (setO_get I ha) (setO_get I hb) (by omega) (by omega) fun h c hc R old => ?_
  exact ⟨.ref _, _, I.laid (t' := s.toks) (fun x o e => old x o (Heap.lt_size e) e) (Nat.le_refl _) (setO_new R), rfl, k _ c (by omega) (I.hok.fresh (Nat.le_refl _))⟩
theorem op_sub : OpR X (binaryOp .Sub) (rSO X.w fun x y => x && !y) := by
  intro pins s σ H x y v u Q I rx ry h
  obtain ⟨a, b, S, U, n, m, rfl, rfl, ab, ha, hb, hn, hm, k⟩ := h
  cases rx
  cases ry
  refine sub_sets ab (setO_get I ha) (setO_get I hb) (by omega) (by omega) (.inl hn) fun h c hc R old => ?_
  exact ⟨.ref _, _, I.laid (t' := s.toks) (fun x o e => old x o (Heap.lt_size e) e) (Nat.le_refl _) (setO_new R), rfl, k _ c (by omega) (I.hok.fresh (Nat.le_refl _))⟩
theorem nodupL_le : ∀ {l m : List Int}, l.Nodup → (∀ k ∈ l, k ∈ m) → l.length ≤ m.length
  | [], m, _, _ => Nat.zero_le _
  | x :: l, m, nd, h => by
    rw [List.nodup_cons] at nd
    have mx := h x List.mem_cons_self
    have ih := nodupL_le (m := m.erase x) nd.2 fun k hk => (List.mem_erase_of_ne (by intro e; rw [e] at hk; exact nd.1 hk)).mpr (h k (List.mem_cons_of_mem _ hk))
    rw [List.length_erase_of_mem mx] at ih
    have := List.length_pos_of_mem mx
    rw [List.length_cons]
    omega
/-- a - b, of more members -/
def rSubW (w : World) : R2 := fun x y H Q => ∃ a b S U n m, x = .ref a ∧ y = .ref b ∧ a ≠ b ∧ H a = some (SetO w a S n) ∧ H b = some (SetO w b U m) ∧ n < 2000 ∧ m < 2000 ∧ (n < 1000 ∨ ∃ L : List Int, L.Nodup ∧ (∀ k ∈ L, U k = true) ∧ n / 4 ≤ L.length) ∧
  ∀ p c, c ≤ n → H p = none → Q (.ref p) (upd H p (SetO w p (fun k => S k && !U k) c))
theorem op_subW : OpR X (binaryOp .Sub) (rSubW X.w) := by
  intro pins s σ H x y v u Q I rx ry h
  obtain ⟨a, b, S, U, n, m, rfl, rfl, ab, ha, hb, hn, hm, alt, k⟩ := h
  cases rx
  cases ry
  have alt : n < 1000 ∨ n / 4 ≤ m := alt.imp id fun ⟨L, nd, hL, le⟩ => by
    obtain ⟨es, ep, t, _, Tb⟩ := setR_iff.mp (setO_get I hb)
    have z := nodupL_le nd fun k hk => (Tb.mem k).mp (hL k hk)
    have el : (List.map keyOf es.toList).length = m := by rw [List.length_map, Array.length_toList, Tb.num]
    rw [el] at z
    omega
  refine sub_sets ab (setO_get I ha) (setO_get I hb) hn hm alt fun h c hc R old => ?_
  exact ⟨.ref _, _, I.laid (t' := s.toks) (fun x o e => old x o (Heap.lt_size e) e) (Nat.le_refl _) (setO_new R), rfl, k _ c hc (I.hok.fresh (Nat.le_refl _))⟩
/-- len(s) -/
def rLenO (w : World) : List V → Hp → VK → Prop := fun xs H Q => ∃ a S n, xs = [V.ref a] ∧ H a = some (SetO w a S n) ∧ n ≤ 4000 ∧ ((n = 0 ↔ ∀ j, S j = false) → Q (.int (n : Nat)) H)
theorem call_lenSet : CallR X (.builtin "len") (rLenO X.w) := by
  intro pins s σ H xs us Q I r h
  obtain ⟨a, S, n, rfl, ha, hn, k⟩ := h
  obtain ⟨u, rfl, ru⟩ := r.one
  cases (show u = Value.ref a from ru)
  obtain ⟨es, ep, t, ⟨o, ho, hx, hd⟩, T⟩ := setR_iff.mp (setO_get I ha)
  refine call_len_set ho hx hd T.fit (by rw [T.num]; omega) ?_
  rw [T.num]
  refine ⟨.int n, H, (I.tok _).tok _, ⟨_, rfl⟩, k ⟨fun z j => Bool.eq_false_iff.mpr fun y => ?_, fun z => ?_⟩⟩
  · have mm := (T.mem j).mp y
    rw [Array.eq_empty_of_size_eq_zero (T.num.trans z)] at mm
    cases mm
  · rw [← T.num, ← Array.length_toList]
    cases e : es.toList with
    | nil => rfl
    | cons x l =>
      have y := (T.mem (keyOf x)).mpr (by rw [e]; simp)
      rw [z] at y
      cases y
end
end So

/-! set(xs) of a list or a tuple of ints, as a set object. -/
namespace Si
open PySem PySem.Spec PyProof.Rows
section
variable {prog : Program} {w : World} {A : Around} {E : Value → Shared → Prop} {s : Shared}
theorem code_led1 (a : Value) {Q₁ : Value → Shared → Prop}
    (h : Q₁ (.ref s.heap.objs.size) { s with heap := s.heap.push { cls := .type "set", dict := none, data := .set #[] 0 (.fresh 0 0 (!w.params.followText "set-order")) } }) :
    codeAny (model prog w) A (.call (.builtin "set.__new__") ⟨[.type "set", a], []⟩) (wants Q₁ E) s := by
  refine codeAny_of_tree ?_
  show wpAny _ A.in1 (do checkBuiltinCall "set.__new__" ⟨[.type "set", a], []⟩; again (.builtin "set.__new__" ⟨[.type "set", a], []⟩)) _ _ s
  refine wpAny_bind (wpAny_of_eq (F.newCall_set_1 a) (wpAny_pure ⟨plainId_quiet F.plain_set_new _, codeAny_builtin F.entry_set_new ?_⟩))
  rw [Around.under_plainId F.plain_set_new _]
  unfold Builtin.«set.__new__» Builtin.Frozenset.newClass
  have hsub := sub_set_self
  obtain ⟨hp, g, d, tk, os⟩ := s
  dsimp only
  wp_walk
  refine wpAny_askSetting (wpAny_pure ?_)
  dsimp only
  simp only [newObj]
  refine wpAny_bind (wpAny_alloc (wpAny_pure ?_))
  exact wpAny_pure h
theorem ints_len : ∀ {vs : List Value} {xs : List Int}, IntsAre vs xs → vs.length = xs.length
  | _, _, .nil => rfl
  | _, _, .cons _ _ h => by rw [List.length_cons, List.length_cons, ints_len h]
theorem ints_at : ∀ {vs : List Value} {xs : List Int}, IntsAre vs xs → ∀ (i : Nat) v, vs[i]? = some v → ∃ x t, xs[i]? = some x ∧ v = .int x t
  | _, _, .nil, i, v, e => by simp at e
  | _, _, .cons x t h, 0, v, e => ⟨x, t, rfl, by simpa using e.symm⟩
  | _, _, .cons _ _ h, i + 1, v, e => by
    obtain ⟨x, t, e1, e2⟩ := ints_at h i v (by simpa using e)
    exact ⟨x, t, by simpa using e1, e2⟩
abbrev so (led : Bool) : Obj := { cls := .type "set", dict := none, data := .set #[] 0 (.fresh 0 0 led) }
theorem fill {R : Result → Shared → Prop} {I : Addr} {fp wr : List Addr} {G : Array GenState → Array GenState → Prop} {n : Nat} {P : Nat → Value → Prop} {St : Nat → Shared → Prop}
    (W : WalksS prog w A.in1 I fp wr G n P St) (S : Addr) (hSf : S ∉ fp) (xs : List Int) (hsz : xs.length = n) (hb : n + 1 < scanBound) (hval : ∀ i v, P i v → ∃ x t, xs[i]? = some x ∧ v = .int x t) :
    ∀ (k i : Nat) (s : Shared), n - i = k → i ≤ n → St i s → (∃ c, c ≤ i ∧ L2.SetR w s.heap S (fun y => decide (y ∈ xs.take i)) c) →
      (∀ s' c, Moved (S :: wr) G s s' → c ≤ n → L2.SetR w s'.heap S (fun y => decide (y ∈ xs.take n)) c → R (.ok (.ret .none)) s') →
      codeAny (model prog w) A (.builtin "set.update.loop" ⟨[.ref S, .ref I], []⟩) R s := by
  have nw : S ∉ wr := fun h => hSf (W.sub _ h)
  have more : ∀ b ∈ wr, b ∈ S :: wr := fun b hb => List.mem_cons_of_mem _ hb
  intro k
  induction k with
  | zero =>
    intro i s hk hi st ⟨c, hc, hS⟩ hR
    have e : i = n := by omega
    subst e
    refine codeAny_builtin PyProof.Rows.F.entry_set_update_loop ?_
    rw [Around.under_plainId PyProof.Rows.F.plain_set_update_loop _]
    show wpAny _ A.in1 (pyNext (.ref I) >>= _) _ _ s
    refine wpAny_bind (W.done s _ _ st fun s' hm => ?_)
    show wpAny _ A.in1 (ret Value.none) _ _ s'
    exact wpAny_pure (hR s' c (hm.mono more) hc (L2.SetR.at hS fun o e => hm.heap S o nw e))
  | succ k ih =>
    intro i s hk hi st ⟨c, hc, hS⟩ hR
    have lt : i < n := by omega
    refine codeAny_builtin PyProof.Rows.F.entry_set_update_loop ?_
    rw [Around.under_plainId PyProof.Rows.F.plain_set_update_loop _]
    show wpAny _ A.in1 (pyNext (.ref I) >>= _) _ _ s
    refine wpAny_bind (W.item i s _ _ lt st fun v s' hP st' hm => ?_)
    obtain ⟨x, t, hx, rfl⟩ := hval i v hP
    have hS1 := L2.SetR.at (h' := s'.heap) hS fun o e => hm.heap S o nw e
    show wpAny _ A.in1 (holding [Value.int x t] (setAdd S (.int x t)) >>= _) _ _ s'
    refine wpAny_bind (wpAny_holding ?_)
    unfold setAdd
    refine wpAny_holding ?_
    refine wpAny_bind ((PySem.intKind prog w).pyHash (k := x) (intKind_is _ _ _ _) ?_)
    refine L2.setR_add_hashed (s := { s' with toks := s'.toks + 1 }) hS1 (by omega) fun g same hS2 => ?_
    have hS3 := L2.SetR.congr (S' := fun y => decide (y ∈ xs.take (i + 1))) hS2 (fun y => by
      rw [List.take_add_one, hx]
      simp [List.mem_append])
    refine wpAny_pure ⟨plainId_quiet PyProof.Rows.F.plain_set_update_loop _, ih (i + 1) _ (by omega) lt (W.frame _ s' _ _ st' (Nat.le_succ _) fun b hb o e => ?_) ⟨_, (by split <;> omega), hS3⟩ fun s2 c2 m2 hc2 hS4 => ?_⟩
    · rw [same.2 b (fun h : b = S => hSf (by rw [← h]; exact hb))]
      exact e
    · refine hR s2 c2 (Moved.trans W.gtrans ((hm.mono more).then_heap (Nat.le_succ _) fun b o hb e => ?_) m2) hc2 hS4
      rw [same.2 b (fun h : b = S => hb (by rw [h]; exact List.mem_cons_self))]
      exact e
set_option maxHeartbeats 3200000 in
theorem set_ints {l : Addr} {its : Array Value} {xs : List Int} {Q : Value → Shared → Prop} (hh : A.handled = none) (hl : s.heap.IsList l its) (hi : PyProof.Rows.IntsAre its.toList xs) (hb : xs.length + 1 < scanBound)
    (q : ∀ (g : Heap) (tk c : Nat), c ≤ xs.length → L2.SetR w g s.heap.objs.size (fun y => decide (y ∈ xs)) c → (∀ b o, b < s.heap.objs.size → s.heap.get? b = some o → g.get? b = some o) → Q (.ref s.heap.objs.size) { s with heap := g, toks := tk }) :
    wpAny (model prog w) A (call (.type "set") [.ref l]) Q E s := by
  obtain ⟨c0, tl0, m0⟩ := PySem.F.called_set.mro
  have a1 := PySem.F.called_set.made
  have a2 := PySem.F.called_set.sub
  refine wpAny_call (codeAny_of_tree ?_)
  show wpAny _ _ (callAny (.type "set") _) _ _ _
  refine wpAny_pure ⟨Code.quiet_builtin _ (by decide +kernel), codeAny_builtin PySem.F.entry_type_call ?_⟩
  rw [Around.under_plain (weight_type_call_type "set" [.ref l] []) rfl]
  have a3 := PySem.F.called_set.notType
  have a4 := PySem.F.called_set.canCreate
  have a5 := PySem.F.typeCall_set_1 (.ref l)
  repeat (any_goals (first | assumption | wp_step))
  refine codeAny_mono (code_led1 (.ref l) (E := E) (Q₁ := fun ob s₁ => ob = .ref s.heap.objs.size ∧ s₁ = { s with heap := s.heap.push { cls := .type "set", dict := none, data := .set #[] 0 (.fresh 0 0 (!w.params.followText "set-order")) } }) ⟨rfl, rfl⟩) fun r s₁ hr => ?_
  cases r with
  | error e => exact hr
  | ok fl =>
    cases fl with
    | ret ob =>
      obtain ⟨rfl, rfl⟩ := hr
      generalize hso : ({ cls := .type "set", dict := none, data := .set #[] 0 (.fresh 0 0 (!w.params.followText "set-order")) } : Obj) = so
      have hfr : so.isFreed = false := by rw [← hso]; rfl
      have b1 : (s.heap.push so).get? s.heap.objs.size = some so := Heap.get?_push_size _ hfr
      have b2 : Shared.TypeIs { s with heap := s.heap.push so } (.ref s.heap.objs.size) "set" := ⟨_, b1, by rw [← hso]⟩
      have b3 := PySem.F.called_set.init.lookup
      have b4 := PySem.F.called_set.init.bind (.ref s.heap.objs.size)
      repeat (any_goals (first | assumption | wp_step))
      refine codeAny_mono (codeAny_call_builtin (R := wants (fun r s₂ => r = .none ∧ ∃ g tk c, s₂ = { s with heap := g, toks := tk } ∧ c ≤ xs.length ∧ L2.SetR w g s.heap.objs.size (fun y => decide (y ∈ xs)) c ∧
          (∀ b o, b < s.heap.objs.size → s.heap.get? b = some o → g.get? b = some o)) E) PySem.F.called_set.init.plain PySem.F.entry_set_init (check_set_init_1 b2 ?_)) fun r₂ s₂ hr₂ => ?_
      · obtain ⟨ol, hol, hcl, nl, hdl⟩ := hl
        obtain ⟨ocls, odict, odata, oslots⟩ := ol
        simp only at hcl hdl
        subst hcl hdl
        have hol' : (s.heap.push so).get? l = some { cls := .type "list", dict := odict, data := .seq its nl, slots := oslots } := Heap.get?_push_of_some _ hol
        have c1 := PySem.F.sub_list_set
        have c2 := PySem.F.sub_list_frozenset
        have c3 : (Value.type "list" == Value.type "dict") = false := by decide
        have hl1 : (s.heap.push so).IsList l its := ⟨_, hol', rfl, nl, rfl⟩
        unfold Builtin.«set.__init__» noKeywords Builtin.Frozenset.updateFrom
        generalize hPI : pyIter = PI
        have ll : l < s.heap.objs.size := Heap.lt_size hol
        have nI : ∀ ob : Obj, l ≠ (s.heap.push ob).objs.size := fun ob => by
          rw [Heap.size_push]
          exact Nat.ne_of_lt (Nat.lt_succ_of_lt ll)
        have nS : ∀ ob : Obj, s.heap.objs.size ∉ [(s.heap.push ob).objs.size, l] := fun ob => by
          rw [Heap.size_push]
          simp only [List.mem_cons, List.mem_singleton, List.not_mem_nil, or_false, not_or]
          exact ⟨Nat.ne_of_lt (Nat.lt_succ_self _), Nat.ne_of_gt ll⟩
        have nB : ∀ (ob : Obj) (b : Addr), b < s.heap.objs.size → b ≠ (s.heap.push ob).objs.size := fun ob b lb => by
          rw [Heap.size_push]
          exact Nat.ne_of_lt (Nat.lt_succ_of_lt lb)
        subst hso
        wp_walk
        subst hPI
        refine wpAny_pyIter_list hl1 ?_
        refine wpAny_bind (wpAny_runValue ?_)
        have hh3 : A.in1.in1.in1.handled = none := by simp [hh]
        have sz : xs.length = its.size := by rw [← ints_len hi, Array.length_toList]
        have hval : ∀ (i : Nat) (v : Value), its[i]? = some v → ∃ x t, xs[i]? = some x ∧ v = .int x t := fun i v hv => ints_at hi i v (by rw [Array.getElem?_toList]; exact hv)
        refine fill ((Walks.list hh3 _ l (nI (so (!w.params.followText "set-order"))) its).toS) s.heap.objs.size (nS (so (!w.params.followText "set-order"))) xs sz (by rw [← sz]; exact hb) hval (its.size - 0) 0 _ (by omega) (Nat.zero_le _)
          ⟨⟨_, Heap.get?_push_size _ rfl, rfl, rfl⟩, (hl1.push _)⟩ ?hS0 ?hR
        case hS0 =>
          exact ⟨0, Nat.le_refl _, L2.SetR.congr (L2.SetR.at (L2.setR_fresh w) fun o e => Heap.get?_push_of_some _ e) (fun _ => by simp)⟩
        case hR =>
          intro s' c' hm hc' hS'
          obtain ⟨g, g', d', tk', os'⟩ := s'
          have eg : g' = s.gens := hm.gens
          have ed : d' = s.drawn := hm.drawn
          have eo : os' = s.os := hm.os
          subst eg ed eo
          show wpAny _ _ _ _ _ _
          refine wpAny_pure ?_
          show wpAny _ _ (ret Value.none) _ _ _
          rw [← sz, List.take_length] at hS'
          rw [← sz] at hc'
          refine wpAny_pure ⟨rfl, g, tk', c', rfl, hc', hS', fun b o lb e => ?_⟩
          have n1 : b ≠ s.heap.objs.size := Nat.ne_of_lt lb
          have n2 := nB (so (!w.params.followText "set-order")) b lb
          exact hm.heap b o (by simp only [List.mem_cons, List.mem_singleton, List.not_mem_nil, or_false, not_or]; exact ⟨n1, n2⟩) (Heap.get?_push_of_some _ (Heap.get?_push_of_some _ e))
      · cases r₂ with
        | error e => exact hr₂
        | ok fl₂ =>
          cases fl₂ with
          | ret r =>
            obtain ⟨rfl, g, tk, c', rfl, hc', hS', hk'⟩ := hr₂
            repeat (any_goals (first | assumption | wp_step))
            exact q _ _ _ hc' hS' hk'
          | _ => exact hr₂.elim
    | _ => exact hr.elim
set_option maxHeartbeats 3200000 in
theorem set_intsT {l : Addr} {its : Array Value} {xs : List Int} {Q : Value → Shared → Prop} (hh : A.handled = none) (hl : s.heap.IsTuple l its) (hi : PyProof.Rows.IntsAre its.toList xs) (hb : xs.length + 1 < scanBound)
    (q : ∀ (g : Heap) (tk c : Nat), c ≤ xs.length → L2.SetR w g s.heap.objs.size (fun y => decide (y ∈ xs)) c → (∀ b o, b < s.heap.objs.size → s.heap.get? b = some o → g.get? b = some o) → Q (.ref s.heap.objs.size) { s with heap := g, toks := tk }) :
    wpAny (model prog w) A (call (.type "set") [.ref l]) Q E s := by
  obtain ⟨c0, tl0, m0⟩ := PySem.F.called_set.mro
  have a1 := PySem.F.called_set.made
  have a2 := PySem.F.called_set.sub
  refine wpAny_call (codeAny_of_tree ?_)
  show wpAny _ _ (callAny (.type "set") _) _ _ _
  refine wpAny_pure ⟨Code.quiet_builtin _ (by decide +kernel), codeAny_builtin PySem.F.entry_type_call ?_⟩
  rw [Around.under_plain (weight_type_call_type "set" [.ref l] []) rfl]
  have a3 := PySem.F.called_set.notType
  have a4 := PySem.F.called_set.canCreate
  have a5 := PySem.F.typeCall_set_1 (.ref l)
  repeat (any_goals (first | assumption | wp_step))
  refine codeAny_mono (code_led1 (.ref l) (E := E) (Q₁ := fun ob s₁ => ob = .ref s.heap.objs.size ∧ s₁ = { s with heap := s.heap.push { cls := .type "set", dict := none, data := .set #[] 0 (.fresh 0 0 (!w.params.followText "set-order")) } }) ⟨rfl, rfl⟩) fun r s₁ hr => ?_
  cases r with
  | error e => exact hr
  | ok fl =>
    cases fl with
    | ret ob =>
      obtain ⟨rfl, rfl⟩ := hr
      generalize hso : ({ cls := .type "set", dict := none, data := .set #[] 0 (.fresh 0 0 (!w.params.followText "set-order")) } : Obj) = so
      have hfr : so.isFreed = false := by rw [← hso]; rfl
      have b1 : (s.heap.push so).get? s.heap.objs.size = some so := Heap.get?_push_size _ hfr
      have b2 : Shared.TypeIs { s with heap := s.heap.push so } (.ref s.heap.objs.size) "set" := ⟨_, b1, by rw [← hso]⟩
      have b3 := PySem.F.called_set.init.lookup
      have b4 := PySem.F.called_set.init.bind (.ref s.heap.objs.size)
      repeat (any_goals (first | assumption | wp_step))
      refine codeAny_mono (codeAny_call_builtin (R := wants (fun r s₂ => r = .none ∧ ∃ g tk c, s₂ = { s with heap := g, toks := tk } ∧ c ≤ xs.length ∧ L2.SetR w g s.heap.objs.size (fun y => decide (y ∈ xs)) c ∧
          (∀ b o, b < s.heap.objs.size → s.heap.get? b = some o → g.get? b = some o)) E) PySem.F.called_set.init.plain PySem.F.entry_set_init (check_set_init_1 b2 ?_)) fun r₂ s₂ hr₂ => ?_
      · obtain ⟨ol, hol, hcl, nl, hdl⟩ := hl
        obtain ⟨ocls, odict, odata, oslots⟩ := ol
        simp only at hcl hdl
        subst hcl hdl
        have hol' : (s.heap.push so).get? l = some { cls := .type "tuple", dict := odict, data := .seq its nl, slots := oslots } := Heap.get?_push_of_some _ hol
        have c1 := PySem.F.sub_tuple_set
        have c2 := PySem.F.sub_tuple_frozenset
        have c3 : (Value.type "tuple" == Value.type "dict") = false := by decide
        have hl1 : (s.heap.push so).IsTuple l its := ⟨_, hol', rfl, nl, rfl⟩
        unfold Builtin.«set.__init__» noKeywords Builtin.Frozenset.updateFrom
        generalize hPI : pyIter = PI
        have ll : l < s.heap.objs.size := Heap.lt_size hol
        have nI : ∀ ob : Obj, l ≠ (s.heap.push ob).objs.size := fun ob => by
          rw [Heap.size_push]
          exact Nat.ne_of_lt (Nat.lt_succ_of_lt ll)
        have nS : ∀ ob : Obj, s.heap.objs.size ∉ [(s.heap.push ob).objs.size, l] := fun ob => by
          rw [Heap.size_push]
          simp only [List.mem_cons, List.mem_singleton, List.not_mem_nil, or_false, not_or]
          exact ⟨Nat.ne_of_lt (Nat.lt_succ_self _), Nat.ne_of_gt ll⟩
        have nB : ∀ (ob : Obj) (b : Addr), b < s.heap.objs.size → b ≠ (s.heap.push ob).objs.size := fun ob b lb => by
          rw [Heap.size_push]
          exact Nat.ne_of_lt (Nat.lt_succ_of_lt lb)
        subst hso
        wp_walk
        subst hPI
        refine wpAny_pyIter_tuple hl1 ?_
        refine wpAny_bind (wpAny_runValue ?_)
        have hh3 : A.in1.in1.in1.handled = none := by simp [hh]
        have sz : xs.length = its.size := by rw [← ints_len hi, Array.length_toList]
        have hval : ∀ (i : Nat) (v : Value), its[i]? = some v → ∃ x t, xs[i]? = some x ∧ v = .int x t := fun i v hv => ints_at hi i v (by rw [Array.getElem?_toList]; exact hv)
        refine fill ((Walks.tuple hh3 _ l (nI (so (!w.params.followText "set-order"))) its).toS) s.heap.objs.size (nS (so (!w.params.followText "set-order"))) xs sz (by rw [← sz]; exact hb) hval (its.size - 0) 0 _ (by omega) (Nat.zero_le _)
          ⟨⟨_, Heap.get?_push_size _ rfl, rfl, rfl⟩, (hl1.push _)⟩ ?hS0 ?hR
        case hS0 =>
          exact ⟨0, Nat.le_refl _, L2.SetR.congr (L2.SetR.at (L2.setR_fresh w) fun o e => Heap.get?_push_of_some _ e) (fun _ => by simp)⟩
        case hR =>
          intro s' c' hm hc' hS'
          obtain ⟨g, g', d', tk', os'⟩ := s'
          have eg : g' = s.gens := hm.gens
          have ed : d' = s.drawn := hm.drawn
          have eo : os' = s.os := hm.os
          subst eg ed eo
          show wpAny _ _ _ _ _ _
          refine wpAny_pure ?_
          show wpAny _ _ (ret Value.none) _ _ _
          rw [← sz, List.take_length] at hS'
          rw [← sz] at hc'
          refine wpAny_pure ⟨rfl, g, tk', c', rfl, hc', hS', fun b o lb e => ?_⟩
          have n1 : b ≠ s.heap.objs.size := Nat.ne_of_lt lb
          have n2 := nB (so (!w.params.followText "set-order")) b lb
          exact hm.heap b o (by simp only [List.mem_cons, List.mem_singleton, List.not_mem_nil, or_false, not_or]; exact ⟨n1, n2⟩) (Heap.get?_push_of_some _ (Heap.get?_push_of_some _ e))
      · cases r₂ with
        | error e => exact hr₂
        | ok fl₂ =>
          cases fl₂ with
          | ret r =>
            obtain ⟨rfl, g, tk, c', rfl, hc', hS', hk'⟩ := hr₂
            repeat (any_goals (first | assumption | wp_step))
            exact q _ _ _ hc' hS' hk'
          | _ => exact hr₂.elim
    | _ => exact hr.elim
end
end Si
namespace Si
open PySem PySem.Spec PyProof.Rows L2
section
variable {X : Cx}
theorem intsAre : ∀ {ns : List Int} {us : List Value}, Vals (ns.map V.int) us → IntsAre us ns
  | [], _, .nil => .nil
  | n :: ns, _, .cons r rt => by
    obtain ⟨t, rfl⟩ := r
    exact .cons n t (intsAre rt)
/-- set(xs), xs a list or a tuple of ints -/
def rSet (K : PySem.W.Frag) (w : World) : List V → Hp → VK → Prop := fun xs H Q => ∃ (p : Addr) (ns : List Int), xs = [.ref p] ∧ (SqL K H p (ns.map V.int) ∨ SqT K H p (ns.map V.int)) ∧ ns.length ≤ 4000 ∧
  ∀ S c, c ≤ ns.length → H S = none → Q (.ref S) (upd H S (SetO w S (fun y => decide (y ∈ ns)) c))
theorem call_set (hc : X.calm = true) : CallR X (.type "set") (rSet X.K X.w) := by
  intro pins s σ H xs us Q I r h
  obtain ⟨p, ns, rfl, hq, hl, k⟩ := h
  obtain ⟨u, rfl, ru⟩ := r.one
  cases (show u = Value.ref p from ru)
  rcases hq with hq | hq
  · obtain ⟨its, r, pl, hz⟩ := I.list hq
    refine set_ints (I.ok.hd hc) pl.isList (by simpa using intsAre r) (by unfold scanBound; omega) fun g tk c hcn hS hk => ?_
    exact ⟨.ref _, _, I.laid (t' := tk) (fun b u e => hk b u (Heap.lt_size e) e) (Nat.le_refl _) (setO_new hS), rfl, k _ c hcn (I.hok.fresh (Nat.le_refl _))⟩
  · obtain ⟨its, r, pl, hz⟩ := I.tuple hq
    refine set_intsT (I.ok.hd hc) pl (by simpa using intsAre r) (by unfold scanBound; omega) fun g tk c hcn hS hk => ?_
    exact ⟨.ref _, _, I.laid (t' := tk) (fun b u e => hk b u (Heap.lt_size e) e) (Nat.le_refl _) (setO_new hS), rfl, k _ c hcn (I.hok.fresh (Nat.le_refl _))⟩
end
end Si

/-! repr of data, and defs that are called where no repr is under way. -/
namespace Rp
open PySem PySem.Spec PyProof.Rows L2
section
variable {X : Cx}
def rRepr (K : PySem.W.Frag) : List V → Hp → VK → Prop := fun xs H Q => ∃ x d, xs = [x] ∧ Dp K H x d ∧ d.showable = true ∧ d.hasDict = false ∧ d.depth ≤ 60 ∧ d.shown.length ≤ sizeLine ∧ Q (.str d.shown) H
theorem call_reprD (hg : X.A.guards = some []) (hu : X.A.units + 64 < cLine) : CallR X (.builtin "repr") (rRepr X.K) := by
  intro pins s σ H xs us Q I r h
  obtain ⟨x, d, rfl, hd, hs, hn, hz, hl, q⟩ := h
  cases r with
  | cons rx rn =>
    cases rn
    obtain ⟨as, rd⟩ := Dp.reads I d x _ hd rx
    cases rd with
    | none => exact PySem.P.repr_of_none ⟨.str _, H, I.tok _, ⟨_, rfl⟩, q⟩
    | bool b => exact PySem.P.repr_of_bool ⟨.str _, H, I.tok _, ⟨_, rfl⟩, q⟩
    | int i t => exact PySem.P.repr_of_int (of_decide_eq_true hs) ⟨.str _, H, I.tok _, ⟨_, rfl⟩, q⟩
    | str z t => exact PySem.P.repr_of_str (hsz := hl) ⟨.str _, H, I.tok _, ⟨_, rfl⟩, q⟩
    | list h1 h2 h3 h4 =>
      exact PySem.repr_of_reads' (.list h1 h2 h3 h4) hs (fun e => by rw [hn] at e; cases e) hg (by omega) (fun _ _ e => e) (fun g u tk k => ⟨.str _, H, I.kept (t' := tk) k, ⟨_, rfl⟩, q⟩) hl
    | tuple h1 h2 h3 h4 =>
      exact PySem.repr_of_reads' (.tuple h1 h2 h3 h4) hs (fun e => by rw [hn] at e; cases e) hg (by omega) (fun _ _ e => e) (fun g u tk k => ⟨.str _, H, I.kept (t' := tk) k, ⟨_, rfl⟩, q⟩) hl
    | dict => cases hd
end
/-- as FnOk, where no repr is under way -/
structure GOk (P : Program) (w : World) (K : PySem.W.Frag) (mg : Str → Option Value) (base : Heap) (CX : CXT) (k : Nat) (f : Addr) (fd : FuncData) (ps : List Str) (sp : Sp) : Prop where
  len : ∀ vs H Q E, sp vs H Q E → vs.length = ps.length
  run : ∀ (A : Around) (outer : List Env) (s : Shared) (H : Hp) (args : Args) (us : List Value) (vs : List V) (Q : VK) (E : XK), Room k A → A.guards = some [] → Env0 P w K mg base A outer s H → BindsTo s fd args (ps.zip us) → Vals vs us → sp vs H Q E →
    codeAny (model P w) A (.call (.ref f) args) (CR CX outer P w H s Q E) s
section
variable {CX : CXT} {P : Program} {w : World} {K : PySem.W.Frag} {mg : Str → Option Value} {base : Heap} {k : Nat} {f : Addr} {fd : FuncData} {ps : List Str} {sp : Sp}
theorem GOk.of (F : FnOk P w K mg base CX k f fd ps sp) : GOk P w K mg base CX k f fd ps sp := ⟨F.len, fun A outer s H args us vs Q E hr _ => F.run A outer s H args us vs Q E hr⟩
theorem GOk.mono {j : Nat} (F : GOk P w K mg base CX j f fd ps sp) (h : j ≤ k) : GOk P w K mg base CX k f fd ps sp := ⟨F.len, fun A outer s H args us vs Q E hr => F.run A outer s H args us vs Q E (hr.mono h)⟩
theorem gfn_of {name qual : Str} {params : Arguments} {body : List Stmt} {scope : Scope} {dV kV doc pm cdv ct oc : Value} {an od : Option Addr} {osl : Array (Option Value)} {N : List Str}
    (lk : K.lookup f = some ⟨oc, od, .func (PySem.W.fnOf name qual params body scope dV kV doc pm an cdv ct), osl⟩) (hcd : PySem.W.codeIn K cdv qual = true) (S : FnScope N ps scope)
    (len : ∀ vs H Q E, sp vs H Q E → vs.length = ps.length)
    (hbody : ∀ (A : Around) (outer : List Env) (s : Shared) (H : Hp) (vs : List V) (Q : VK) (E : XK), A.guards = some [] → Room k (A.deeper (envOfC qual scope s.heap.objs.size f cdv)) → sp vs H Q E →
      ∃ t, PSs (cxOf CX P w K mg base N qual scope f cdv A outer s H E) body t ∧ t { nx := fun _ H' => Q .non H', rt := Q } (start N vs) H) :
    GOk P w K mg base CX (k + 1) f (PySem.W.fnOf name qual params body scope dV kV doc pm an cdv ct) ps sp := by
  refine ⟨len, fun A outer s H args us vs Q E hr hg e0 hb r hsp => ?_⟩
  have nl := len _ _ _ _ hsp
  have old : ∀ b o, base.get? b = some o → s.heap.get? b = some o := fun b o e => (e0.bs b o e).1
  have KX : K.In s.heap := e0.mod.kin.keeps old
  have lim : s.heap.NoLimit := e0.mod.nolimit.keeps old
  have kinds : ∀ y ∈ ps.zip us, scope.names.lookup y.1 = some .local ∨ (scope.names.lookup y.1 = some .cell ∧ ((cellsFrom (s.heap.objs.size + 1) scope.names []).lookup y.1).isSome = true) := fun ⟨n, v⟩ hy =>
    (S.par n (List.of_mem_zip hy).1).imp id fun q => ⟨q, PySem.W.cellsFrom_some _ _ _ (.inl q)⟩
  refine codeAny_call_function hr.depth (KX _ _ lk) rfl S.co S.gen rfl (PySem.W.codeRec_of KX hcd) (hb _ _ _ _ ?_)
  refine wpAny_newFunctionEnv_cells S.kind kinds fun env ee s1 x => ?_
  subst ee
  refine ⟨lim.keeps x.toInCall.keep, codeAny_func ?_⟩
  obtain ⟨t, ht, hq⟩ := hbody A outer s H vs Q E hg (hr.deeper _) hsp
  have I0 : Inv (cxOf CX P w K mg base N qual scope f cdv A outer s H E) [] (start N vs) H s1 := inv_start S hr.hd e0 nl r x
  refine wpAny_mono (ht.run [] s1 (start N vs) H _ I0 hq) (fun fl s' hs => ?_) fun e s' hs => hs
  cases fl with
  | ret u =>
    obtain ⟨v, σ', H', J, rv, q⟩ := hs
    exact ⟨v, H', J.os, J.bare, J.base, J.hok, rv, q⟩
  | next =>
    obtain ⟨σ', H', J, q⟩ := hs
    exact ⟨V.non, H', J.os, J.bare, J.base, J.hok, rfl, q⟩
  | brk =>
    obtain ⟨_, _, _, q⟩ := hs
    exact q.elim
  | cont =>
    obtain ⟨_, _, _, q⟩ := hs
    exact q.elim
theorem gok {x qual : Str} {st : Stmt} {N : List Str} (F : Fun K x qual st f fd) (S : FnScope N ps (defScope st)) (len : ∀ vs H Q E, sp vs H Q E → vs.length = ps.length)
    (hbody : ∀ (cdv : Value) (A : Around) (outer : List Env) (s : Shared) (H : Hp) (vs : List V) (Q : VK) (E : XK), A.guards = some [] → Room k (A.deeper (envOfC qual (defScope st) s.heap.objs.size f cdv)) → sp vs H Q E →
      ∃ t, PSs (cxOf CX0 P w K mg base N qual (defScope st) f cdv A outer s H E).nox (defBody st) t ∧ t { nx := fun _ H' => Q .non H', rt := Q } (start N vs) H) : GOk P w K mg base CX0 (k + 1) f fd ps sp := by
  obtain ⟨oc, od, kV, doc, pm, an, cdv, ct, osl, rfl, lk, hcd⟩ := F.ex
  refine gfn_of lk hcd S len fun A outer s H vs Q E hg hr hsp => ?_
  obtain ⟨t, h, q⟩ := hbody cdv A outer s H vs Q E hg hr hsp
  exact ⟨t, h.nox, q⟩
end
section
variable {X : Cx} {CX : CXT} {k : Nat} {f : Addr} {fd : FuncData} {ps : List Str} {sp : Sp} {E : XK} {ds : List Value} {dvs : List V} {x : Str} {e : Expr} {es : List Expr} {t : TA} {p pos : Pos}
theorem pe_gcall (F : GOk X.prog X.w X.K X.mg X.base CX k f fd ps sp) (gd : X.A.guards = some []) (hr : Room k X.A) (hg : Gl X x) (hm : X.mg x = some (.ref f)) (hk : PySem.W.keepIn X.K (.ref f) = true) (hb : Binds X.K fd ps ds) (hd : Vals dvs ds) (hx : Passes CX X E)
    (ha : PA X (e :: es) t) (hdb : (x == ("__debug__" : Str)) = false := by decide) (he : starEach (e :: es) X.env = (false, eval e X.env) :: starEach es X.env := by rfl) (hpl : (backTo pos (starEach es X.env)).any (·.1) = false := by rfl) :
    PE X (.Call (.Name x p) (e :: es) [] pos) (tCall sp dvs E t) := by
  refine ⟨fun pins s σ H Q I h => ?_⟩
  refine wpAny_Call_Name_kw (ld_glob I hg hm ?_ hdb)
  refine PySem.W.callWith_K (h₀ := X.base) I.ok.mod.kin hk (thn (ha.run pos pins s σ H _ I h) fun us s1 ⟨vs, H1, I1, r, q⟩ => ⟨I1.kIn, ?_⟩) he hpl
  have r2 : Vals (vs ++ dvs) (us ++ ds) := r.append hd
  have nl : (us ++ ds).length = ps.length := r2.length.symm.trans (F.len _ _ _ _ q)
  refine wpAny_call (codeAny_mono (F.run X.A X.stack s1 H1 ⟨us, []⟩ (us ++ ds) (vs ++ dvs) Q E hr gd I1.env0 (hb s1 us I1.kIn nl) r2 q) fun res s' hq => ?_)
  cases res with
  | error z => exact hx pins σ H1 s1 z s' I1 hq
  | ok fl =>
    cases fl with
    | ret u => exact I1.after hq
    | next => exact hq.elim
    | brk => exact hq.elim
    | cont => exact hq.elim
end
end Rp
/-! The law's own call, of a def that is called where no repr is under way. -/
namespace Rp
open PySem PySem.Spec PyProof.Rows L2
theorem law_gcall {P : Program} {w : World} {K : PySem.W.Frag} {mg mb : Str → Option Value} {CX : CXT} {k : Nat} {fa a : Addr} {fd : FuncData} {x : Str} {sp : Sp} {s1 : Shared} {vs : List Value} {ns : List Int}
    (KX : K.In s1.heap) (hns : s1.heap.Ns mainGlobals mg) (hb : s1.heap.Ns builtinsNs mb) (hbb : ∀ y : Str, y ≠ "__name__" → mb y = bootBuiltins y) (lim : s1.heap.NoLimit) (gens : s1.gens = #[])
    (ha : s1.heap.get? a = some { cls := .type "list", data := .seq vs.toArray }) (hi : IntsAre vs ns) (hl : ns.length ≤ sizeLine) (hr : Room k callerA)
    (F : ∀ base : Heap, K.In base → base.Ns mainGlobals mg → GOk P w K mg base CX k fa fd [x] sp) (hbind : ∀ (s : Shared) (u : Value), BindsTo s fd ⟨[u], []⟩ [(x, u)])
    (hsp : ∀ H : Hp, Only H → SqL K H a (ns.map V.int) → sp [.ref a] H (fun v _ => v = .bl true) fun _ _ _ => False)
    (hCX : ∀ H e t, CX [] H s1 (fun _ _ _ => False) e t → False) :
    codeAny (model P w) callerA (.call (.ref fa) ⟨[.ref a], []⟩) (fun r t => r = .ok (.ret (.bool true)) ∧ OldK s1.heap t.heap ∧ t.os = s1.os ∧ AllBare t.gens) s1 := by
  have rv := vals_ints hi
  have nv := hi.length
  have go : ∀ H : Hp, Only H → SqL K H a (ns.map V.int) → HOk P w H s1.heap → (∀ b, H b ≠ none → b = a) → (H a ≠ none → K.lookup a = none) →
      codeAny (model P w) callerA (.call (.ref fa) ⟨[.ref a], []⟩) (fun r t => r = .ok (.ret (.bool true)) ∧ OldK s1.heap t.heap ∧ t.os = s1.os ∧ AllBare t.gens) s1 := by
    intro H hO hS hok only_a noK
    have hid : ∀ {b : Addr} {o : Obj}, s1.heap.get? b = some o → H b = none → (hidT s1.heap H).get? b = some o := fun e n => hidT_get e n
    have dictFree : ∀ {b : Addr} {o : Obj} {es : Array DictEntry} {ep : Nat}, s1.heap.get? b = some o → o.data = .dict es ep → H b = none := fun {b o es ep} e d => by
      cases q : H b with
      | none => rfl
      | some u =>
        have eb : b = a := only_a b (by rw [q]; simp)
        subst eb
        rw [ha] at e
        cases e
        have d2 : Data.seq vs.toArray _ = Data.dict es ep := d
        cases d2
    have nsOf : ∀ {b : Addr} {m : Str → Option Value}, s1.heap.Ns b m → (hidT s1.heap H).Ns b m := fun {b m} ⟨o, es, ep, e, d, r⟩ => ⟨o, es, ep, hid e (dictFree e d), d, r⟩
    have inB : K.In (hidT s1.heap H) := fun b o e => hid (KX b o e) (by
      cases q : H b with
      | none => rfl
      | some u =>
        have eb : b = a := only_a b (by rw [q]; simp)
        subst eb
        rw [noK (by rw [q]; simp)] at e
        cases e)
    have md : Mod K mg (hidT s1.heap H) := ⟨inB, nsOf hns, ⟨mb, nsOf hb, hbb⟩, let ⟨mc, c1, c2⟩ := lim; ⟨mc, nsOf c1, c2⟩⟩
    have e0 : Env0 P w K mg (hidT s1.heap H) callerA [] s1 H := ⟨rfl, md, fun b o e => of_hidT e, Nat.le_of_eq (hidT_size _ _), trivial, fun b hb => absurd (show b ∈ ([] : List Addr) from hb) (by simp), hok, .of_eq gens⟩
    refine codeAny_mono ((F _ inB (nsOf hns)).run callerA [] s1 H ⟨[.ref a], []⟩ [.ref a] [.ref a] _ _ hr rfl e0 (hbind s1 (.ref a)) (.cons rfl .nil) (hsp H hO hS)) fun r t h => ?_
    cases r with
    | error e => exact (hCX H e t h).elim
    | ok fl =>
      cases fl with
      | next => exact h.elim
      | brk => exact h.elim
      | cont => exact h.elim
      | ret u =>
        obtain ⟨v, H', os, bare, un, hok', r', q⟩ := h
        have q' : v = .bl true := q
        subst q'
        obtain rfl : u = Value.bool true := r'
        refine ⟨rfl, OldK.of_keep fun b o e => ?_, os, bare⟩
        cases q : H b with
        | none => exact un.keep b o e q (by intro z; exact absurd (show b ∈ ([] : List Addr) from z) (by simp)) (by simp)
        | some u =>
          rcases hO b with z | ⟨ob, xs, z⟩
          · rw [q] at z
            cases z
          · have z2 := un.frzs b ob _ z
            obtain ⟨e1, _⟩ := hok b _ z
            obtain ⟨e2, _⟩ := hok' b _ z2
            rw [e] at e1
            cases e1
            exact e2
  cases hk : K.lookup a with
  | some o =>
    have e := KX a o hk
    rw [ha] at e
    cases e
    refine go (fun _ => none) (fun _ => .inl rfl) (.inr ⟨_, vs.toArray, _, hk, rfl, rfl, rfl, by rw [List.size_toArray, nv]; exact hl, by simpa using rv⟩) (fun b u z => by have z' : (none : Option HO) = some u := z; cases z') (fun b z => absurd rfl z) fun z => absurd rfl z
  | none =>
    refine go (fun b => if b = a then some (.frz { cls := .type "list", data := .seq vs.toArray } (.lst (ns.map V.int))) else none) (fun b => ?_) (.inl (.inr ⟨{ cls := .type "list", data := .seq vs.toArray }, if_pos rfl⟩)) (fun b u z => ?_) (fun b z => ?_) fun _ => hk
    · by_cases c : b = a
      · exact .inr ⟨_, _, if_pos c⟩
      · exact .inl (if_neg c)
    · by_cases c : b = a
      · have z' := (if_pos c).symm.trans z
        cases z'
        subst c
        exact ⟨ha, by rw [List.length_map]; exact hl, vs, _, rv, ha⟩
      · have z' := (if_neg c).symm.trans z
        cases z'
    · by_cases c : b = a
      · exact c
      · exact absurd (if_neg c) z
theorem walk_gof {l : PySem.W.OpenLaw} {n k : Nat} {q : Program} {loose : List Str} {XP : (Str → Option Value) → Heap → Prop} {YP : World → Heap → Prop} {d : DefRec} {K : Params → PySem.W.Frag} {CX : World → CXT} {sp : World → Sp} {x : Str}
    (hn : l.most = some n) (hn2 : n ≤ sizeLine) (hdf : d.params.defaults = []) (hr : Room k callerA)
    (hY : ∀ (w : World) (h : Heap), YP w h → (K w.params).In h)
    (F : ∀ (w : World) (mg : Str → Option Value) (fa : Addr) (h : Heap), (K w.params).In h → h.Ns mainGlobals mg → mg d.name = some (.ref fa) →
      ∃ fd : FuncData, (∀ (s : Shared) (u : Value), BindsTo s fd ⟨[u], []⟩ [(x, u)]) ∧
        ∀ base : Heap, (K w.params).In base → base.Ns mainGlobals mg → GOk l.prog w (K w.params) mg base (CX w) k fa fd [x] (sp w))
    (hsp : ∀ (w : World) (H : Hp) (a : Addr) (ns : List Int), ns.length ≤ n → Only H → SqL (K w.params) H a (ns.map V.int) → sp w [.ref a] H (fun v _ => v = .bl true) fun _ _ _ => False)
    (hCX : ∀ (w : World) (H : Hp) (s : Shared) (e : Value) (t : Shared), CX w [] H s (fun _ _ _ => False) e t → False) :
    PySem.W.WalkO q loose XP YP l.row.toRowW d [] (fun f vs => PySem.call f vs) := by
  refine Att.attach_call hn hdf fun w s0 s1 mg mb fa o pm cd doc a vs ns G Y ho hd hcd hmg hobj hints hlen hg => ?_
  have KX := hY w _ Y
  obtain ⟨fd, hb, hF⟩ := F w mg fa _ KX G.T.g hmg
  exact law_gcall KX G.T.g G.T.b G.T.builtins G.T.nolimit hg hobj hints (Nat.le_trans hlen hn2) hr hF hb (fun H hO hS => hsp w H a ns hlen hO hS) fun H e t => hCX w H s1 e t
end Rp

/-! An own error with one field, BadNumber, as the guide's skeleton on own errors gives it. -/
namespace PySem
namespace LowX
open PySem.W PySem.Calls PyProof.Rows PySem.HandSPX
/-! ### the text of __init__ -/
def iA (p1 p2 : Pos) : Arguments := { posonlyargs := [], args := [{ arg := "self", annotation := none, pos := p1 }, { arg := "number", annotation := none, pos := p2 }], vararg := none, kwonlyargs := [], kw_defaults := [], kwarg := none, defaults := [] }
def iB (q1 q2 q3 q4 : Pos) : List Stmt := [.Assign [.Attribute (.Name "self" q1) "number" q2] (.Name "number" q3) q4]
def iS : Scope := { kind := .function, names := [(PySem.Str.ofString "self", .local), (PySem.Str.ofString "number", .local)], isGenerator := false, isCoroutine := false, more := [] }
/-- what the written part says of Low, at C, and of its __init__, at fI -/
structure LowTxt (K : Frag) (mg : Str → Option Value) (C fI : Addr) : Prop where
  gC : mg "BadNumber" = some (.ref C)
  cls : ∃ nm q N bs bm sn sub ab col dd k0 k1 k2 k3 k5, K.lookup C = some (excClassObj nm q C N bs bm true sn sub ab col dd k0 k1 k2 k3 k5 "ValueError.__new__") ∧ refsVE bm = true
  sa : findIn K (.ref C) "__setattr__" = some (some (.builtin "object.__setattr__"))
  ga : findIn K (.ref C) "__getattribute__" = some (some (.builtin "BaseException.__getattribute__"))
  gg : findIn K (.ref C) "__getattr__" = some none
  noN : findIn K (.ref C) "number" = some none
  iC : findIn K (.ref C) "__init__" = some (some (.ref fI))
  tC : typeIn K (.ref fI) = some (.type "function")
  kC : keepIn K (.ref C) = true
  exC : subIn K (.ref C) (.type "BaseException") = some true
  tyC : typeIn K (.ref C) = some (.type "type")
  hdC : hasDictIn K C = true
  te : exmOne K (.ref C) (.ref C) = some true
  fn : ∃ (oc : Value) (od : Option Addr) (doc pm : Value) (an : Option Addr) (cdv ct : Value) (osl : Array (Option Value)) (p1 p2 q1 q2 q3 q4 : Pos),
    K.lookup fI = some ⟨oc, od, .func (fnOf "__init__" "BadNumber.__init__" (iA p1 p2) (iB q1 q2 q3 q4) iS .none .none doc pm an cdv ct), osl⟩ ∧ codeIn K cdv "BadNumber.__init__" = true
theorem one_size (v : Value) : [v].length ≤ sizeLine := by
  rw [sizeLine_eq]
  exact (by decide : 1 ≤ 16777216)
theorem kept_but {K : Frag} {h h' : Heap} {x : Addr} (X : K.In h) (hx : K.lookup x = none) (k : ∀ b o, b ≠ x → h.get? b = some o → h'.get? b = some o) : K.In h' := fun a o e =>
  k a o (fun z => by rw [z, hx] at e; cases e) (X a o e)
theorem ldC {M : Model} {s : Shared} {name : Str} {scope : Scope} {L a : Addr} {cd : Value} {m : Str → Option Value} {x : Str} {pos : Pos} {v : Value} {Q : Value → Shared → Prop} {A : Around} {E : Value → Shared → Prop} (hn : s.heap.Ns L m) (hv : m x = some v) (h : Q v s)
    (hk : scope.kind = .function := by rfl) (hl : (envOfC name scope L a cd).kindOf x = some .local := by rfl) (hd : (x == ("__debug__" : Str)) = false := by decide) :
    wpAny M A (eval (.Name x pos) (envOfC name scope L a cd)) Q E s := wpAny_Name (wpAny_loadName_local hk hl hn hv h) hd
/-- what __init__ leaves of a fresh exception at x -/
structure InitEnd (h h' : Heap) (x C dx t1 : Addr) (v : Value) : Prop where
  keep : ∀ b o, b ≠ x → h.get? b = some o → h'.get? b = some o
  obj : h'.get? x = some { cls := .ref C, dict := some dx, data := .fields #[.ref t1, .none, .none, .none, .bool false, .none] }
  dbig : h.objs.size ≤ dx
  dne : dx ≠ x
  ns : h'.Ns1 dx (fun y => if y = "number" then some v else none)
/-- a made Low -/
structure OwnMade (h h' : Heap) (e C d : Addr) (v : Value) : Prop where
  keep : ∀ b o, h.get? b = some o → h'.get? b = some o
  new : h.objs.size ≤ e
  obj : ∃ oe vs, h'.get? e = some oe ∧ oe.cls = .ref C ∧ oe.dict = some d ∧ oe.data = .fields vs ∧ vs[1]? = some .none
  dbig : h.objs.size ≤ d
  dne : d ≠ e
  ns : h'.Ns1 d (fun y => if y = "number" then some v else none)
section
variable {prog : Program} {w : World} {A : Around} {E : Value → Shared → Prop} {R : Result → Shared → Prop} {s : Shared} {K : Frag} {mg : Str → Option Value} {C fI : Addr}
theorem low_init (T : LowTxt K mg C fI) {x t0 : Addr} {v : Value} (X : K.In s.heap) (hlim : s.heap.NoLimit) (hx : s.heap.get? x = some (excO C t0)) (hnx : K.lookup x = none) (hroom : A.depth < recursionLimit)
    (hq : ∀ h' tk dx, InitEnd s.heap h' x C dx t0 v → R (.ok (.ret .none)) { s with heap := h', toks := tk }) :
    codeAny (model prog w) A (.call (.ref fI) ⟨[.ref x, v], []⟩) R s := by
  obtain ⟨oc, od, doc, pm, an, cdv, ct, osl, p1, p2, q1, q2, q3, q4, ho, hcd⟩ := T.fn
  obtain ⟨nm, q, N, bs, bm, sn, sub, ab, col, dd, k0, k1, k2, k3, k5, hC, hbm⟩ := T.cls
  have hcl : clsIn K C = some { name := nm, bases := bs, mro := .ref C :: bm, ns := N, qualname := q, hasDict := true, slotNames := sn, subclasses := sub, abstract := ab, collection := col, hasDel := false } := by unfold clsIn; rw [hC] <;> rfl
  refine Att.call_fn (binds := [("self", .ref x), ("number", v)]) X hlim ho hcd hroom (BindsTo.of_eq (by first | rfl | with_unfolding_all rfl)) (by first | rfl | decide | with_unfolding_all rfl) (fun s₁ IC => ?_) rfl rfl rfl
  obtain ⟨h₁, tk₁, rfl⟩ := IC.toInCall.same
  have k : ∀ b o, s.heap.get? b = some o → h₁.get? b = some o := IC.toInCall.keep
  have hn := IC.toInCall.ns
  have hxL : s.heap.objs.size ≠ x := Nat.ne_of_gt (Heap.lt_size hx)
  have X₁ : K.In h₁ := X.keeps k
  have hx₁ := k _ _ hx
  -- self.by = by
  show wpAny _ _ (execs _ _) _ _ _
  refine wpAny_execs_cons (plainObj_wpAny_Assign_Attribute ?_)
  refine ldC (v := v) hn (by first | rfl | with_unfolding_all rfl | kernel_rfl) (ldC (v := .ref x) hn (by first | rfl | with_unfolding_all rfl | kernel_rfl) ?_)
  refine set_plain X₁ (ox := excO C t0) (od := none) ⟨hx₁, rfl, rfl, trivial⟩ T.sa ?_
  refine exc_osa X₁ hx₁ hcl (show refsVE (.ref C :: bm) = true from hbm) rfl T.noN (fun h₃ tk₃ dx k₃ dn dne hx₃ hn₃ => ?_)
  show wpAny _ _ (execs _ _) _ _ _
  have z : s.heap.objs.size < h₁.objs.size := hn.lt
  exact wpAny_execs_nil (hq h₃ tk₃ dx ⟨fun b o hb e => k₃ b o hb (k b o e), hx₃, Nat.le_of_lt (Nat.lt_of_lt_of_le z dn), dne, hn₃⟩)
theorem low_made (T : LowTxt K mg C fI) {v : Value} (X : K.In s.heap) (hlim : s.heap.NoLimit) (hroom : A.depth + 1 < recursionLimit)
    (hq : ∀ h' tk e d, OwnMade s.heap h' e C d v → R (.ok (.ret (.ref e))) { s with heap := h', toks := tk }) :
    codeAny (model prog w) A (.call (.ref C) ⟨[v], []⟩) R s := by
  obtain ⟨nm, q, N, bs, bm, sn, sub, ab, col, dd, k0, k1, k2, k3, k5, hC, hbm⟩ := T.cls
  obtain ⟨hp, g, dr, tk, os⟩ := s
  have k : ∀ b o, hp.get? b = some o → ((hp.push (kdv_tup [v])).push (excO C hp.objs.size)).get? b = some o := fun b o e => Heap.get?_push_of_some _ (Heap.get?_push_of_some _ e)
  have hget : ((hp.push (kdv_tup [v])).push (excO C hp.objs.size)).get? (hp.objs.size + 1) = some (excO C hp.objs.size) := by heap_get
  have hnx : K.lookup (hp.objs.size + 1) = none := by
    cases e : K.lookup (hp.objs.size + 1) with
    | none => rfl
    | some o =>
      have z : hp.get? (hp.objs.size + 1) = some o := X _ _ e
      exact absurd (Nat.lt_of_succ_lt (Heap.lt_size z)) (Nat.lt_irrefl _)
  refine call_own F.excBase_ValueError (fun X => refsVE_contains X bm hbm) (X _ _ hC) (looks_findIn X T.iC) (fun self => bind_fn X self T.tC) (one_size v) ?_
  refine low_init (s := ⟨(hp.push (kdv_tup [v])).push (excO C hp.objs.size), g, dr, tk, os⟩) T (X.keeps k) (hlim.keeps k) hget hnx ?_ fun h' tk' dx ⟨k', hx, dn, dne, hns⟩ => ?_
  · show A.depth + 1 < recursionLimit
    exact hroom
  · have old : ∀ b o, hp.get? b = some o → h'.get? b = some o := fun b o e => k' b o (Nat.ne_of_lt (Nat.lt_succ_of_lt (Heap.lt_size e))) (k b o e)
    have z : hp.objs.size + 1 + 1 ≤ dx := by
      first
        | (simpa only [Heap.size_push] using dn)
        | exact dn
        | (have q := dn; rw [Heap.size_push, Heap.size_push] at q; exact q)
    exact ⟨rfl, hq h' tk' (hp.objs.size + 1) dx ⟨old, Nat.le_succ _, ⟨_, _, hx, rfl, rfl, rfl, rfl⟩, Nat.le_trans (Nat.le_trans (Nat.le_succ _) (Nat.le_succ _)) z, dne, hns⟩⟩
end
end LowX
end PySem
namespace L2
open PySem PySem.Spec PyProof.Rows
theorem relO_low {v : V} {v' : Value} (r : RelV v v') (f : Str) : RelO (List.lookup f [(("number" : Str), v)]) (if f = "number" then some v' else none) := by
  by_cases hw : f = "number"
  · subst hw
    rw [if_pos rfl]
    have q : List.lookup ("number" : Str) [(("number" : Str), v)] = some v := by simp [List.lookup]
    rw [q]
    exact r
  · rw [if_neg hw]
    have qw : (f == ("number" : Str)) = false := by simpa using hw
    have q2 : List.lookup f [(("number" : Str), v)] = none := by simp [List.lookup, qw]
    rw [q2]
    trivial
section
variable {X : Cx} {C fI : Addr}
/-- Low(e) -/
def tMkLow (C : Addr) (ta : TA) : St → Hp → XK → Prop := fun σ H Q => ta σ H fun vs H1 => ∃ v, vs = [v] ∧ ∀ d, H1 d = none → Q (.ref C) (some d) (upd H1 d (.xd [(("number" : Str), v)]))
theorem pmk_low {a : Expr} {ta : TA} {p pos : Pos} {k : Nat} (T : PySem.LowX.LowTxt X.K X.mg C fI) (hr : Room k X.A) (ha : PA X [a] ta) (hg : Gl X "BadNumber" := by rfl)
    (he : starEach (a :: []) X.env = (false, eval a X.env) :: starEach [] X.env := by rfl) (hpl : (backTo pos (starEach [] X.env)).any (·.1) = false := by rfl) :
    PMk X (.Call (.Name "BadNumber" p) [a] [] pos) (tMkLow C ta) := by
  intro pins s σ H Q I h
  refine wpAny_Call_Name_kw (ld_glob I hg T.gC ?_)
  refine PySem.W.callWith_K (h₀ := X.base) I.ok.mod.kin T.kC (thn (ha.run pos pins s σ H _ I h) fun us s1 hh => ?_) he hpl
  obtain ⟨vs, H1, I1, r1, v, ev, q1⟩ := hh
  subst ev
  refine ⟨I1.kIn, ?_⟩
  cases r1 with
  | cons rv rn =>
    rename_i v' us'
    cases rn
    show wpAny _ _ (call (.ref C) [v']) _ _ _
    have hlim := I1.nolimit
    obtain ⟨hp, g, dr, tk, os⟩ := s1
    refine wpAny_call (PySem.LowX.low_made T I1.kIn hlim (by have := hr.dp; omega) fun h' tk' e d M => ?_)
    show MkP X pins σ Q (.ref e) ⟨h', g, dr, tk', os⟩
    obtain ⟨oe, fv, hoe, hc, hd, hdat, h1⟩ := M.obj
    have hns := M.ns
    obtain ⟨G', g1, g2⟩ := restrict h' fun b => decide (b ≠ e)
    have gk : ∀ b, b ≠ e → G'.get? b = h'.get? b := fun b hb => g1 b (decide_eq_true hb)
    have ge : G'.get? e = none := g2 e (by simp)
    have old : ∀ b o, hp.get? b = some o → G'.get? b = some o := fun b o q => (gk b (Nat.ne_of_lt (Nat.lt_of_lt_of_le (Heap.lt_size q) M.new))).trans (M.keep b o q)
    have ob : ObjOk X.prog X.w (upd H1 d (.xd [(("number" : Str), v)])) G' d (.xd [(("number" : Str), v)]) :=
      ⟨_, hns.at (fun o q => (gk d M.dne).trans q), fun f => relO_low rv f⟩
    have J : Inv X pins σ (upd H1 d (.xd [(("number" : Str), v)])) ⟨G', g, dr, tk', os⟩ := I1.laid (t' := tk') old M.dbig ob
    refine ⟨e, oe, fv, ⟨G', g, dr, tk', os⟩, _, .ref C, some d, rfl, J, fun b o q => ?_, ge, hoe, ⟨hc, hd⟩, hdat, h1, ?_, rfl, I1.bare, raises_own T.exC T.tyC, q1 d (I1.hok.fresh M.dbig)⟩
    · by_cases hb : b = e
      · have q' : G'.get? b = some o := q
        rw [hb, ge] at q'; cases q'
      · exact (gk b hb).symm.trans q
    · rw [upd_ne (Ne.symm M.dne)]
      exact I1.hok.fresh M.new
/-- raise Low(e) -/
def tRaiseLow (C : Addr) (W : WX) (ta : TA) : TS := fun _ σ H => tMkLow C ta σ H fun cls d H' => W cls d σ H'
theorem ps_raiseLow {a : Expr} {ta : TA} {W : WX} {p pos pos2 : Pos} {k : Nat} (hc : X.calm = true) (T : PySem.LowX.LowTxt X.K X.mg C fI) (hr : Room k X.A) (tk : Takes X W) (ha : PA X [a] ta) (hg : Gl X "BadNumber" := by rfl)
    (he : starEach (a :: []) X.env = (false, eval a X.env) :: starEach [] X.env := by rfl) (hpl : (backTo pos (starEach [] X.env)).any (·.1) = false := by rfl) :
    PS X (.Raise (some (.Call (.Name "BadNumber" p) [a] [] pos)) none pos2) (tRaiseLow C W ta) := ps_raise hc tk (pmk_low T hr ha hg he hpl)
/-- low.by, low the exception that the suite holds (at a; its class cls, its dict d) -/
def tByLow (C : Addr) (a : Addr) (cls : Value) (d : Option Addr) (te : TE) : TE := fun σ H Q => te σ H fun x H1 => x = .ref a ∧ cls = .ref C ∧ ∃ (dd : Addr) (v : V), d = some dd ∧ H1 dd = some (.xd [(("number" : Str), v)]) ∧ Q v H1
theorem pe_byLow {a : Addr} {oe : Obj} {cls : Value} {d : Option Addr} {pn : List (Addr × Obj)} {e : Expr} {te : TE} {pos : Pos} (T : PySem.LowX.LowTxt X.K X.mg C fI) (hz : Zc cls d oe) (hf : ∃ vs, oe.data = .fields vs) (he : PE (X.suite a ((a, oe) :: pn)) e te)
    (hb : attributeBase e "number" X.env (eval e X.env) = eval e X.env := by rfl) :
    PE (X.suite a ((a, oe) :: pn)) (.Attribute e "number" pos) (tByLow C a cls d te) := by
  refine ⟨fun pins s σ H Q I h => ?_⟩
  refine attr_of hb (thn (he.run pins s σ H _ I h) fun u s1 hh => ?_)
  obtain ⟨x, H1, I1, rx, ex, ec, dd, v, ed, ea, q⟩ := hh
  subst ex
  obtain rfl : u = Value.ref a := rx
  subst ec
  subst ed
  obtain ⟨ha, _⟩ := I1.pin (a, oe) (List.mem_append_left _ List.mem_cons_self)
  obtain ⟨vs, hd⟩ := hf
  have hx : ObjOk X.prog X.w H1 s1.heap dd (.xd [(("number" : Str), v)]) := I1.hok dd _ ea
  obtain ⟨mA, hns, hr⟩ := hx
  obtain ⟨od, ho, hl⟩ := lookIn_ns hns
  have l : List.lookup ("number" : Str) [(("number" : Str), v)] = some v := by simp [List.lookup]
  obtain ⟨u, hu, ru⟩ := RelO.some_of (v := v) (o := mA "number") (by rw [← l]; exact hr "number")
  have J : PySem.W.InstAt s1.heap a oe C (some od) := ⟨ha, hz.1, by unfold PySem.W.notCls; rw [hd] <;> rfl, by rw [hz.2]; exact ho⟩
  exact HandSPX.exc_get I1.kIn J T.ga T.gg T.exC (PySem.W.findObj_own T.hdC T.noN rfl (by rw [hl, hu])) (handed_of ru) ⟨v, H1, I1.tok _, ru, q⟩
end
end L2


/-! Comprehensions whose items draw from the bag, told one by one. -/
namespace Lm
open PySem L2 Wm Dv
theorem kt_but {K : PySem.W.Frag} {H H' : Hp} {b : Addr} {n : Nat} (bag : Bag H b n) (e : But b H H') : Kt K H H' := fun a xs q => by
  obtain ⟨c, x, k, m, z, ns, hb, _⟩ := bag
  have ne : ∀ {u : HO}, H a = some u → (∀ y, u ≠ .lst y) → H' a = some u := fun {u} h n => e.keep _ _ (fun z => by subst z; rw [hb] at h; exact n _ (Option.some.inj h).symm) h
  rcases q with (q | ⟨ob, q⟩) | q
  · exact .inl (.inl (ne q fun y z => by cases z))
  · exact .inl (.inr ⟨ob, ne q fun y z => by cases z⟩)
  · exact .inr q
theorem bag_off {H : Hp} {b p : Addr} {n : Nat} (bag : Bag H b n) (h : H p = none) : p ≠ b := fun e => by
  obtain ⟨_, _, _, _, _, _, hb, _⟩ := bag
  rw [e, hb] at h
  cases h
theorem lc_bag {K : PySem.W.Frag} {J : It} {n : Nat} {G : Hp → Prop} {xs : List V} (w : Walk J n G (YAt xs)) {g : TG} {te : TE} {vs : List Nat} {σ : L2.St} {H1 : Hp} {D : Addr} {Qd : Hp → Prop} {b : Addr} {m c : Nat} (R : Nat → V → Hp → Prop)
    (mono : ∀ i y H H', R i y H → Kt K H H' → R i y H') (hD : H1 D = none) (bag : Bag H1 b m) (hn : n ≤ 1000) (hG : ∀ H', But b H1 H' → G H')
    (hs : ∀ i x H', i < n → xs[i]? = some x → But b H1 H' → Bag H' b (m + c * i) → ∀ (Q : V → Hp → Prop) (Z : Hp → Prop), (∀ y H4, But b H' H4 → Bag H4 b (m + c * (i + 1)) → R i y H4 → Q y H4) → g x (wipe σ vs) H' fun σ2 H2 => wipe σ2 vs = wipe σ vs ∧ tYes σ2 H2 fun b H3 => if b = true then te σ2 H3 Q else Z H3)
    (hd : ∀ H ys, But b H1 H → Bag H b (m + c * n) → H D = some (.lst ys) → ys.length = n → (∀ (i : Nat) y, ys[i]? = some y → R i y H) → Qd H) :
    ∃ W : Nat → Nat → Hp → Prop, (∃ m, W 0 m (upd H1 D (.lst []))) ∧ ∀ i m H, W i m H →
      (J.stop i H ∧ Qd H) ∨ (J.go i H ∧ ∃ Nx : Hp → Prop, (∀ H', Nx H' → ∃ m', m' < m ∧ W (i + 1) m' H') ∧ ∀ x H', J.yld i H x H' → g x (wipe σ vs) H' fun σ2 H2 => wipe σ2 vs = wipe σ vs ∧ tYes σ2 H2 fun b H3 =>
        if b = true then te σ2 H3 fun y H4 => ∃ acc, H4 D = some (.lst acc) ∧ acc.length < sizeLine ∧ Nx (upd H4 D (.lst (acc ++ [y]))) else Nx H3) := by
  have db := bag_off bag hD
  refine lc_it (tt := tYes) w (fun i H => But b H1 H ∧ Bag H b (m + c * i) ∧ ∃ ys : List V, ys.length = i ∧ H D = some (.lst ys) ∧ ∀ j y, ys[j]? = some y → R j y H)
    ⟨But.of (same_new hD), (bag.keep (same_new hD)).mono (by omega), [], rfl, upd_same, fun (j : Nat) (y : V) e => by simp at e⟩ (fun i H _ h => hG H h.1) (fun i x H H' hi hP hY => ?_) (fun H hP => ?_)
  · obtain ⟨bt, bg, ys, el, hy, hR⟩ := hP
    obtain ⟨rfl, hx⟩ := hY
    refine hs i x H' hi hx bt bg _ _ (fun y H4 b4 g4 r4 => ?_)
    have hy4 := b4.keep _ _ db hy
    have k5 : Kt K H4 (upd H4 D (.lst (ys ++ [y]))) := Kt.lst hy4
    refine ⟨ys, hy4, by rw [el]; exact small1000 (by omega), (bt.trans b4).put hD, Bag.put bag hD (bt.trans b4) g4, ys ++ [y], by rw [List.length_append, el]; rfl, upd_same, fun j z hz => ?_⟩
    by_cases lj : j < ys.length
    · rw [List.getElem?_append_left lj] at hz
      exact mono _ _ _ _ (hR j z hz) ((kt_but bg b4).trans k5)
    · rw [List.getElem?_append_right (by omega)] at hz
      have e0 : j - ys.length = 0 := by
        by_cases q : j - ys.length = 0
        · exact q
        · rw [List.getElem?_eq_none (by rw [List.length_singleton]; omega)] at hz
          cases hz
      rw [e0] at hz
      have ez : y = z := by simpa using hz
      have ej : j = i := by omega
      subst ez ej
      exact mono _ _ _ _ r4 k5
  · obtain ⟨bt, bg, ys, el, hy, hR⟩ := hP
    exact hd H ys bt bg hy el hR
end Lm

/-! x != y of two instances of an own class with an own __eq__ and no __ne__. -/
namespace On
open PySem PySem.Spec PyProof.Rows L2
structure NeOk (K : PySem.W.Frag) (C f : Addr) : Prop where
  ex : ∃ (nm q : Str) (N : Addr) (bs : List Value) (hd : Bool) (sn : List Str) (sub : List Value) (ab : Bool) (col : Option Bool) (dd : Option Addr) (k0 k1 k2 k3 k5 : Option Value),
    K.lookup C = some (excClassObj nm q C N bs [.type "object"] hd sn sub ab col dd k0 k1 k2 k3 k5 "object.__new__") ∧ PySem.W.nsOkIn K N = true ∧ PySem.W.nsIn K N "__eq__" = some (some (.ref f)) ∧ PySem.W.nsIn K N "__ne__" = some none
  fn : PySem.W.isFn K (.ref f) = true
theorem ns_some {K : PySem.W.Frag} {h : Heap} {N : Addr} {mg : Str → Option Value} {n : Str} {v : Value} (X : K.In h) (G : h.Ns N mg) (e : PySem.W.nsIn K N n = some (some v)) : mg n = some v := by
  obtain ⟨o, es, ep, ho, hd, _, hf⟩ := G
  unfold PySem.W.nsIn at e
  split at e
  · rename_i c d es' n' sl q
    have z := X _ _ q
    rw [ho] at z
    cases z
    cases hd
    split at e
    · rename_i y hy
      rw [← hf]
      unfold nsFind findBy
      rw [← Array.find?_toList, hy]
      exact Option.some.inj e
    · rename_i hy
      split at e <;> cases e
  · cases e
section
variable {X : Cx} {CX : CXT} {C g : Addr} {n : Nat} {sp : Sp} {E : XK}
def rNe (C : Addr) (sp : Sp) (E : XK) : R2 := fun x y H Q => ∃ a dx fs b dy gs, x = .ref a ∧ y = .ref b ∧ H a = some (.ins C dx fs) ∧ H b = some (.ins C dy gs) ∧ sp [x, y] H (fun z H' => ∃ c, z = .bl c ∧ Q (.bl (!c)) H') E
theorem op_ne (W : NeOk X.K C g) (F : FnR X.prog X.w X.K X.mg X.base CX n g sp) (hr : Room (n + 1) X.A) (hu : X.A.units + 64 < cLine) (hx : Passes CX X E) : OpR X (compareOp .NotEq) (rNe C sp E) := by
  intro pins s σ H x y v u Q I rx ry h
  obtain ⟨a, dx, fs, b, dy, gs, rfl, rfl, ha, hb, q⟩ := h
  cases (show v = Value.ref a from rx)
  cases (show u = Value.ref b from ry)
  obtain ⟨ox, od, J⟩ := Ow.ins_at I ha
  obtain ⟨oy, oe, J'⟩ := Ow.ins_at I hb
  obtain ⟨nm, qn, N, bs, hd, sn, sub, ab, col, dd, k0, k1, k2, k3, k5, lC, ok, e1, e2⟩ := W.ex
  have KX := I.kIn
  have G : s.heap.Ns N (s.heap.nsMap N) := .of_isNs (PySem.W.isNs_of_in KX ok)
  have m1 := ns_some KX G e1
  have m2 := PySem.W.ns_none_of KX G e2
  obtain ⟨of, hf, hc⟩ : ∃ of, X.K.lookup g = some of ∧ of.cls = .type "function" := by
    have z := W.fn
    unfold PySem.W.isFn PySem.W.typeIn at z
    have z := beq_iff_eq.mp z
    obtain ⟨of, h1, h2⟩ := Option.map_eq_some_iff.mp z
    exact ⟨of, h1, h2⟩
  have Y : s.heap.OwnEqNoNe a C g "object" [.type "object"] := ⟨ox, of, nm, qn, N, bs, hd, sn, sub, ab, col, dd, k0, k1, k2, k3, k5, "object.__new__", s.heap.nsMap N, _, J.at_, J.cls, KX _ _ lC, G, m1, KX _ _ hf, hc, PySem.F.mro_object, rfl, m2⟩
  obtain ⟨hh, gn, dr, tk, os⟩ := s
  refine compareOp_ne_ownEq PySem.F.cmp_object Y J'.at_ J'.cls (by omega) (wpAny_mono (wpAny_call (SlX.run_at (us := [.ref a, .ref b]) (ws := [.ref a, .ref b]) F hr.in1 I.env0.in1 hx I (.cons rfl (.cons rfl .nil)) q)) (fun w s' z => ?_) fun _ _ z => z)
  obtain ⟨z', H', I', rz, c, rfl, qz⟩ := z
  cases (show w = Value.bool c from rz)
  exact ⟨c, rfl, .bl (!c), H', I', rfl, qz⟩
end
end On

/-! iter(tuple) as a value; list(x), x with an __iter__ that gives such a one, and an own __len__. -/
namespace Li
open PySem PySem.Spec PyProof.Rows L2
/-- an iterator of the tuple t, not begun -/
def TiO (t it : Addr) : HO := .ext fun h => h.IsTupleIter it t 0
theorem ti_at {h h' : Heap} {t it : Addr} {i : Nat} (x : h.IsTupleIter it t i) (k : ∀ o, h.get? it = some o → h'.get? it = some o) : h'.IsTupleIter it t i := by
  obtain ⟨o, e, r⟩ := x
  exact ⟨o, k o e, r⟩
theorem ti_ok {P : Program} {w : World} {H : Hp} {h : Heap} {t it : Addr} (x : h.IsTupleIter it t 0) : ObjOk P w H h it (TiO t it) :=
  ⟨x, by obtain ⟨o, e, _⟩ := x; exact ⟨o, e⟩, fun _ _ p k => ti_at p k⟩
/-- iter(t): the iterator is younger than all that is tracked -/
def rIterT (K : PySem.W.Frag) : List V → Hp → VK → Prop := fun xs H Q => ∃ (t : Addr) (zs : List V), xs = [.ref t] ∧ SqT K H t zs ∧ ∀ it, H it = none → (∀ b o, H b = some o → b < it) → Q (.ref it) (upd H it (TiO t it))
section
variable {X : Cx}
theorem call_iterT : CallR X (.builtin "iter") (rIterT X.K) := by
  intro pins s σ H xs us Q I r h
  obtain ⟨t, zs, rfl, hq, q⟩ := h
  obtain ⟨u, rfl, ru⟩ := r.one
  cases (show u = Value.ref t from ru)
  obtain ⟨its, rv, pl, hz⟩ := I.tuple hq
  refine Calls.call_function_entry (by decide +kernel) (by decide +kernel) PySem.W.kdk_entry_iter (PySem.W.kdk_args_iter _) ?_
  unfold Builtin.«iter»
  refine wpAny_bind (m := someArgs "iter" 1 2 _) (wpAny_of_eq (a := [Value.ref t]) (by first | rfl | kernel_rfl!) ?_)
  show wpAny _ _ (pyIter (.ref t) >>= _) _ _ _
  refine wpAny_bind (wpAny_pyIter_tuple (items := its.toArray) pl (wpAny_pure ⟨_, rfl, ?_⟩))
  refine ⟨.ref s.heap.objs.size, _, I.laid (t' := s.toks) (fun b u e => Heap.get?_push_of_some _ e) (Nat.le_refl _) (ti_ok ⟨_, Heap.get?_push_size _ rfl, rfl, rfl⟩), rfl, q _ (I.hok.fresh (Nat.le_refl _)) fun b o e => ?_⟩
  exact (I.hok b o e).lt
end
section
variable {X : Cx} {pins : List (Addr × Obj)} {σ : L2.St} {q it t : Addr} {zs : List V} {A1 : Around} {Rs : Result → Shared → Prop}
/-- the list at q takes what the iterator gives -/
theorem fill (hh : A1.in1.handled = none) (few : zs.length ≤ 1000) : ∀ (k i : Nat) (H : Hp) (s : Shared), zs.length - i = k → i ≤ zs.length → Inv X pins σ H s → H q = some (.lst (zs.take i)) → FpOk X pins H it → s.heap.IsTupleIter it t i → SqT X.K H t zs →
    (∀ s', Inv X pins σ (upd H q (.lst zs)) s' → Rs (.ok (.ret .none)) s') → codeAny (model X.prog X.w) A1 (.builtin "list.extend.loop" ⟨[.ref q, .ref it, .none], []⟩) Rs s := by
  intro k
  have sz := sizeLine_eq
  induction k with
  | zero =>
    intro i H s hk hi I hq fp st ht hd
    have e : i = zs.length := by omega
    subst e
    obtain ⟨its, rv, pl, hz⟩ := I.tuple ht
    have li := rv.length
    obtain ⟨f0, f1, f2, f3, f4, f5⟩ := fp
    refine codeAny_builtin PySem.F.entry_extend_loop ?_
    rw [Around.under_plainId PySem.F.plain_extend_loop _]
    show wpAny _ A1.in1 (pyNext (.ref it) >>= _) _ _ s
    refine wpAny_bind (wpAny_pyNext_tuple_end hh st (items := its.toArray) pl (by rw [List.getElem?_toArray, List.getElem?_eq_none (by omega)]) fun h' ex => ?_)
    have I1 := I.turned (t' := s.toks) (h' := h') (fun b o nb e => ex b o nb e) f0 f1 f3 f4 f5
    rw [List.take_length] at hq
    have e : upd H q (.lst zs) = H := by
      funext b
      by_cases c : b = q
      · rw [c, upd_same, hq]
      · rw [upd_ne c]
    exact wpAny_pure (hd _ (by rw [e]; exact I1))
  | succ k ih =>
    intro i H s hk hi I hq fp st ht hd
    have lt : i < zs.length := by omega
    obtain ⟨its, rv, pl, hz⟩ := I.tuple ht
    obtain ⟨u, hu, ru⟩ := rv.get (List.getElem?_eq_getElem lt)
    obtain ⟨f0, f1, f2, f3, f4, f5⟩ := id fp
    refine codeAny_builtin PySem.F.entry_extend_loop ?_
    rw [Around.under_plainId PySem.F.plain_extend_loop _]
    show wpAny _ A1.in1 (pyNext (.ref it) >>= _) _ _ s
    refine wpAny_bind (wpAny_pyNext_tuple_item st (items := its.toArray) pl (x := u) (by simpa using hu) fun h' st' sb => ?_)
    have I1 := I.turned (t' := s.toks) (h' := h') (fun b o nb e => (sb.2 b nb).trans e) f0 f1 f3 f4 f5
    obtain ⟨z, ls, kk, r2, hl, e⟩ := I1.lstM hq
    have ll := r2.length
    rw [List.length_take] at ll
    show wpAny _ A1.in1 (updateSeq q (·.push u) >>= _) _ _ _
    have nq : it ≠ q := fun c => by rw [← c, f0] at hq; cases hq
    refine wpAny_bind (wpAny_updateSeq e rfl (wpAny_pure ⟨plainId_quiet PySem.F.plain_extend_loop _, ?_⟩) (by rw [List.size_toArray]; omega) (by show (ls.toArray.push u).size ≤ sizeLine + 1; rw [Array.size_push, List.size_toArray]; omega))
    have I2 := I1.lset (f := (·.push u)) (its' := ls ++ [u]) (t' := s.toks) hq e (by simp) (r2.append (.cons ru .nil)) (by rw [List.length_append, List.length_singleton, List.length_take]; omega)
    have tk : zs.take i ++ [zs[i]] = zs.take (i + 1) := by rw [List.take_add_one, List.getElem?_eq_getElem lt]; rfl
    rw [tk] at I2
    refine ih (i + 1) _ _ (by omega) lt I2 upd_same ⟨by rw [upd_ne nq]; exact f0, f1, f2, f3, f4, f5⟩ (ti_at st' fun o e => ?_) ?_ fun s' I' => hd s' (by rw [upd_upd] at I'; exact I')
    · exact (Heap.get?_update_other _ _ (Ne.symm nq)).trans e
    · rcases ht with (w1 | ⟨o, w2⟩) | w3
      · refine .inl (.inl ?_)
        rw [upd_ne fun c => by rw [c, hq] at w1; cases w1]
        exact w1
      · refine .inl (.inr ⟨o, ?_⟩)
        rw [upd_ne fun c => by rw [c, hq] at w2; cases w2]
        exact w2
      · exact .inr w3
end
end Li
namespace Li
open PySem PySem.Spec PyProof.Rows L2 ItX
section
variable {X : Cx} {C fi fl : Addr} {spI spL : Sp} {EI EL : XK} {n : Nat}
/-- a def that never raises, called anywhere within -/
theorem sure_at {A : Around} {Q : VK} {E : XK} {g : Addr} {sp : Sp} {us : List Value} {ws : List V} {pins : List (Addr × Obj)} {σ : L2.St} {H : Hp} {s : Shared} (F : FnR X.prog X.w X.K X.mg X.base CX0 n g sp) (hr : Room n A) (e0 : Env0 X.prog X.w X.K X.mg X.base A X.stack s H) (I : Inv X pins σ H s)
    (r : Vals ws us) (h : sp ws H Q E) : codeAny (model X.prog X.w) A (.call (.ref g) ⟨us, []⟩) (fun r s' => match r with | .ok (.ret v) => EP X pins σ Q v s' | .ok _ => False | .error _ => False) s := by
  refine codeAny_mono (F A X.stack s H us ws Q E hr e0 r h) fun r s' z => ?_
  match r, z with
  | .ok (.ret _), z => exact I.after z
  | .ok .next, z => exact z.elim
  | .ok .brk, z => exact z.elim
  | .ok .cont, z => exact z.elim
  | .error _, z => exact z.elim
/-- list(x): its __iter__ gives an iterator of a tuple, its __len__ a number -/
def rListIt (K : PySem.W.Frag) (C : Addr) (spI spL : Sp) (EI EL : XK) : List V → Hp → VK → Prop := fun xs H Q => ∃ a dx fs, xs = [.ref a] ∧ H a = some (.ins C dx fs) ∧ ∀ q, H q = none → spI [.ref a] (upd H q (.lst []))
  (fun v H1 => ∃ it t zs, v = .ref it ∧ H1 it = some (TiO t it) ∧ q < it ∧ SqT K H1 t zs ∧ zs.length ≤ 1000 ∧ H1 q = some (.lst []) ∧ H1 a = some (.ins C dx fs) ∧
    spL [.ref a] H1 (fun z H2 => ∃ i : Int, z = .int i ∧ 0 ≤ i ∧ i < 1000 ∧ H2 = H1 ∧ Q (.ref q) (upd (dropH H1 it) q (.lst zs))) EL) EI
theorem call_listIt (hs : PySem.W.findIn X.K (.ref C) "__iter__" = some (some (.ref fi))) (hf : PySem.W.isFn X.K (.ref fi) = true) (hl : PySem.W.findIn X.K (.ref C) "__len__" = some (some (.ref fl))) (hlf : PySem.W.isFn X.K (.ref fl) = true)
    (FI : FnR X.prog X.w X.K X.mg X.base CX0 n fi spI) (FL : FnR X.prog X.w X.K X.mg X.base CX0 n fl spL) (hc : X.calm = true) (hr : Room (n + 4) X.A) : CallR X (.type "list") (rListIt X.K C spI spL EI EL) := by
  intro pins s σ H xs us Q I rv h
  obtain ⟨a, dx, fs, rfl, ha, hq⟩ := h
  obtain ⟨u, rfl, ru⟩ := rv.one
  cases (show u = Value.ref a from ru)
  have sb : Sub X (n + 1) X.A.in1.in1.in1 := Sub.in1 (Sub.in1 (Sub.in1 ⟨hr, rfl⟩))
  refine callType_codes (Q₁ := fun obj s₁ => obj = .ref s.heap.objs.size ∧ s₁ = { s with heap := s.heap.push { cls := .type "list", data := .seq #[] } })
    PySem.F.called_list (PySem.F.typeCall_list_1 _) PySem.F.entry_list_init (code_list_new _ ⟨rfl, rfl⟩) fun obj s₁ h₁ => ?_
  obtain ⟨rfl, rfl⟩ := h₁
  have hS : (s.heap.push { cls := .type "list", data := .seq #[] }).get? s.heap.objs.size = some { cls := .type "list", data := .seq #[] } := Heap.get?_push_size _ rfl
  refine ⟨⟨_, hS, rfl⟩, PySem.F.args_list_init_2 _ _, ?_⟩
  have fr : H s.heap.objs.size = none := I.hok.fresh (Nat.le_refl _)
  have hsp := hq _ fr
  have young : X.s_0.heap.objs.size ≤ s.heap.objs.size := I.sz
  have I1 : Inv X pins σ (upd H s.heap.objs.size (.lst [])) { s with heap := s.heap.push { cls := .type "list", data := .seq #[] } } := I.lnew (its := []) (t' := s.toks) .nil (Nat.zero_le _)
  show wpAny _ _ (Builtin.List.listItems (.ref s.heap.objs.size) >>= fun old => Builtin.List.listUpdate (.ref s.heap.objs.size) (fun _ => #[]) >>= fun _ => letGo old.toList.reverse >>= fun _ => Builtin.List.listExtendWith (.ref s.heap.objs.size) (.ref a) .none) _ _ _
  refine wpAny_bind ?_
  unfold Builtin.List.listItems
  refine wpAny_bind (wpAny_seqItems hS rfl (wpAny_pure ?_))
  show wpAny _ _ (updateSeq s.heap.objs.size (fun _ => #[]) >>= fun _ => letGo (#[] : Array Value).toList.reverse >>= fun _ => Builtin.List.listExtendWith (.ref s.heap.objs.size) (.ref a) .none) _ _ _
  refine wpAny_bind (wpAny_updateSeq hS rfl ?_)
  have I2 := I1.lset (f := fun _ => #[]) (its := []) (its' := []) (ys := []) (t' := s.toks) upd_same hS rfl .nil (Nat.zero_le _)
  rw [upd_upd] at I2
  refine wpAny_bind (wpAny_letGo ?_)
  have ha2 : upd H s.heap.objs.size (.lst []) a = some (.ins C dx fs) := by rw [upd_ne (ne_of_none ha fr)]; exact ha
  have nqa : s.heap.objs.size ≠ a := (ne_of_none ha fr).symm
  have low : s.heap.objs.size < ({ s with heap := (s.heap.push { cls := .type "list", data := .seq #[] }).update s.heap.objs.size (Obj.mapSeq fun _ => #[]) } : Shared).heap.objs.size := (I2.hok _ _ upd_same).lt
  generalize hq0 : s.heap.objs.size = q at *
  generalize ({ s with heap := (s.heap.push { cls := .type "list", data := .seq #[] }).update q (Obj.mapSeq fun _ => #[]) } : Shared) = s1 at *
  generalize hH1 : upd H q (.lst []) = H1 at *
  have hq1 : H1 q = some (.lst []) := by rw [← hH1]; exact upd_same
  obtain ⟨ox, od, J⟩ := Ow.ins_at I2 ha2
  obtain ⟨m0, hF⟩ := I2.fr
  unfold Builtin.List.listExtendWith
  refine wpAny_bind (J.type.here ?_)
  have b1 : Builtin.List.listSameRef (.ref q) (.ref a) = false := by simp [Builtin.List.listSameRef, nqa]
  have b2 : (Value.ref C == Value.type "list") = false ∧ (Value.ref C == Value.type "tuple") = false := ⟨rfl, rfl⟩
  simp only [b1, b2.1, b2.2, Bool.or_false, Bool.false_eq_true, if_false]
  refine wpAny_bind (PySem.W.owit_iter hF I2.ok.mod.kin J hs hf ?_)
  have env : ∀ {s2 : Shared} {H2 : Hp}, Inv X pins σ H2 s2 → Env0 X.prog X.w X.K X.mg X.base X.A.in1.in1 X.stack s2 H2 := fun I => by
    have e := I.env0
    exact ⟨e.frames, e.mod, e.bs, e.bsz, e.funs, e.frf, e.hok, e.bare⟩
  have room0 : Room (n + 1) X.A.in1.in1 := (hr.in1.in1).mono (by omega)
  have room1 : Room n X.A.in1.in1 := room0.mono (by omega)
  refine wpAny_mono (wpAny_call (sure_at (us := [.ref a]) (ws := [.ref a]) FI room1 (env I2) I2 (.cons rfl .nil) hsp)) (fun v s3 hv => ?_) fun _ _ x => x.elim
  obtain ⟨v', H3, I3, rv3, it, t, zs, rfl, hit, qlt, ht, few, hq3, ha3, hsp2⟩ := hv
  cases (show v = Value.ref it from rv3)
  have st3 : s3.heap.IsTupleIter it t 0 := (I3.hok it _ hit).1
  unfold PySem.W.OwitIt
  refine wpAny_specialOf (name := Str.ofString "__next__") st3.typeIs PySem.F.slot_tuple_iterator_next.lookup ?_
  refine wpAny_bind (wpAny_holding ?_)
  unfold Builtin.List.listLengthHint
  obtain ⟨ox3, od3, J3⟩ := Ow.ins_at I3 ha3
  obtain ⟨m3, hF3⟩ := I3.fr
  refine wpAny_bind (wpAny_bind (J3.type.here ((PySem.W.looks_findIn I3.kIn hl).here ?_)))
  refine PySem.W.KFB.if_not rfl ?_
  refine wp_if_pos rfl (wpAny_bind (wpAny_rule (wpAny_bind (wpAny_attempt ?_))))
  refine PySem.W.len_K hF3 I3.ok.mod.kin J3 hl hlf (wpAny_mono (wpAny_call (sure_at (us := [.ref a]) (ws := [.ref a]) FL (room0.in1) (env I3).in1 I3 (.cons rfl .nil) hsp2)) (fun w s4 z => ?_) fun _ _ x => x.elim)
  obtain ⟨z', H4, I4, rz, i, rfl, h0, h1, rfl, qz⟩ := z
  obtain ⟨tk, e⟩ := (show ∃ tk, w = Value.int i tk from rz)
  cases e
  refine ⟨⟨h0, by omega⟩, ?_⟩
  dsimp only
  refine wpAny_bind (wpAny_of_eq (a := some i) rfl ?_)
  have sl := sizeLine_eq
  refine wp_if_neg (by unfold Builtin.List.listTooLong; rw [decide_eq_true_eq]; omega) (wpAny_pure ?_)
  have I5 := inv_drop (I4.tok (s4.toks + 1)) hit
  have fp : FpOk X pins (dropH H4 it) it := inv_fp I4 hit (Nat.le_trans young (Nat.le_of_lt qlt))
  have nqi : q ≠ it := Nat.ne_of_lt qlt
  have hq5 : dropH H4 it q = some (.lst []) := (dropH_ne nqi).trans hq3
  have ht5 : SqT X.K (dropH H4 it) t zs := by
    rcases ht with (w1 | ⟨o, w2⟩) | w3
    · refine .inl (.inl ((dropH_ne fun c => ?_).trans w1))
      rw [c, hit] at w1
      cases w1
    · refine .inl (.inr ⟨o, (dropH_ne fun c => ?_).trans w2⟩)
      rw [c, hit] at w2
      cases w2
    · exact .inr w3
  have st5 : s4.heap.IsTupleIter it t 0 := (I4.hok it _ hit).1
  have hh : X.A.in1.in1.handled = none := by simp [I.ok.hd hc]
  have go : ∀ s6 : Shared, Inv X pins σ (dropH H4 it) s6 → s6.heap.IsTupleIter it t 0 → codeAny (model X.prog X.w) X.A.in1 (.builtin "list.extend.loop" ⟨[.ref q, .ref it, .none], []⟩) (wants (fun r s₂ => r = .none ∧ EP X pins σ Q (.ref q) s₂) X.xe) s6 := fun s6 I6 st6 =>
    fill (zs := zs) hh few (zs.length - 0) 0 _ s6 rfl (Nat.zero_le _) I6 hq5 fp st6 ht5 fun s7 I7 => ⟨rfl, ⟨.ref q, _, I7, rfl, qz⟩⟩
  refine wpAny_ite_split (fun _ => ?_) fun _ => wpAny_pure ⟨plainId_quiet PySem.F.plain_extend_loop _, go _ I5 st5⟩
  refine wpAny_bind (wpAny_rule (wpAny_bind ?_))
  obtain ⟨z5, its5, k5, r5, l5, e5⟩ := I5.lstM hq5
  cases r5
  show wpAny _ _ (updateSeq q (·.push Value.none) >>= fun _ => updateSeq q (·.pop)) _ _ _
  refine wpAny_bind (wpAny_updateSeq e5 rfl ?_)
  have I6 := I5.lset (f := (·.push Value.none)) (its' := [Value.none]) (ys := [.non]) (t' := s4.toks + 1) hq5 e5 (by simp) (.cons rfl .nil) (by rw [List.length_singleton, sl]; decide)
  obtain ⟨z6, its6, k6, r6, l6, e6⟩ := I6.lstM upd_same
  obtain ⟨u6, rfl, ru6⟩ := r6.one
  refine wpAny_updateSeq e6 rfl ?_ (by show 1 ≤ sizeLine; rw [sl]; decide) (by show 0 ≤ sizeLine + 1; exact Nat.zero_le _)
  have I7 := I6.lset (f := (·.pop)) (its := [u6]) (its' := []) (ys := []) (t' := s4.toks + 1) upd_same e6 (by rfl) .nil (Nat.zero_le _)
  rw [upd_upd, show upd (dropH H4 it) q (.lst []) = dropH H4 it from funext fun b => by
    by_cases c : b = q
    · rw [c, upd_same, hq5]
    · rw [upd_ne c]] at I7
  refine wpAny_pure ⟨plainId_quiet PySem.F.plain_extend_loop _, go _ I7 (ti_at st5 fun o e => ?_)⟩
  exact (Heap.get?_update_other _ _ nqi).trans ((Heap.get?_update_other _ _ nqi).trans e)
end
end Li
/-! for .. in x, x an instance whose __iter__ gives iter(tuple). -/
namespace Li
open PySem PySem.Spec PyProof.Rows L2 ItX
section
variable {X : Cx} {C fi : Addr} {spI : Nat → Sp} {EI : XK} {n : Nat} {tg : Expr}
/-- a def whose promise knows how many objects there are when it is called -/
def FnA (P : Program) (w : World) (K : PySem.W.Frag) (mg : Str → Option Value) (base : Heap) (n : Nat) (g : Addr) (sp : Nat → Sp) : Prop :=
  ∀ (A : Around) (outer : List Env) (s : Shared) (H : Hp) (us : List Value) (vs : List V) (Q : VK) (E : XK), Room n A → Env0 P w K mg base A outer s H → Vals vs us → sp s.heap.objs.size vs H Q E →
    codeAny (model P w) A (.call (.ref g) ⟨us, []⟩) (CR CX0 outer P w H s Q E) s
theorem fnA_of {P : Program} {w : World} {K : PySem.W.Frag} {mg : Str → Option Value} {base : Heap} {x qual : Str} {st : Stmt} {g : Addr} {fd : FuncData} {N ps : List Str} {k : Nat} {sp : Nat → Sp} (F : Fun K x qual st g fd) (S : FnScope N ps (defScope st)) (B : Binds K fd ps [])
    (len : ∀ n vs H Q E, sp n vs H Q E → vs.length = ps.length)
    (body : ∀ (cdv : Value) (A : Around) (outer : List Env) (s : Shared) (H : Hp) (vs : List V) (Q : VK) (E : XK), Room k (A.deeper (envOfC qual (defScope st) s.heap.objs.size g cdv)) → sp s.heap.objs.size vs H Q E →
      ∃ t, PSs (cxOf CX0 P w K mg base N qual (defScope st) g cdv A outer s H E) (defBody st) t ∧ t { nx := fun _ H' => Q .non H', rt := Q } (start N vs) H) : FnA P w K mg base (k + 1) g sp := by
  obtain ⟨oc, od, kV, doc, pm, an, cdv, ct, osl, rfl, lk, hcd⟩ := F.ex
  intro A outer s H us vs Q E hr e0 r hsp
  have hl := len _ _ _ _ _ hsp
  have KX : K.In s.heap := e0.mod.kin.keeps fun b o e => (e0.bs b o e).1
  have bd := B s us KX (by rw [List.append_nil, ← r.length]; exact hl)
  rw [List.append_nil] at bd
  refine codeAny_call_function hr.depth (KX _ _ lk) rfl S.co S.gen rfl (PySem.W.codeRec_of KX hcd) (bd _ _ _ _ ?_)
  refine wpAny_newFunctionEnv_cells S.kind (fun y hy => ?_) fun env he s1 fresh => ?_
  · rcases S.par y.1 (List.of_mem_zip (show (y.1, y.2) ∈ ps.zip us from hy)).1 with q | q
    · exact .inl q
    · exact .inr ⟨q, PySem.W.cellsFrom_some _ _ _ (.inl q)⟩
  subst he
  refine ⟨(e0.mod.nolimit.keeps fun b o e => (e0.bs b o e).1).keeps fresh.toInCall.keep, codeAny_func ?_⟩
  obtain ⟨t, ht, hq⟩ := body _ A outer s H vs Q E (hr.deeper _) hsp
  refine wpAny_mono (ht.run [] s1 (start N vs) H _ (inv_start S hr.hd e0 hl r fresh) hq) (fun fl s' hs => ?_) fun e s' hs => hs
  match fl, hs with
  | .ret _, ⟨v, _, H', J, rv, q⟩ => exact ⟨v, H', J.os, J.bare, J.base, J.hok, rv, q⟩
  | .next, ⟨_, H', J, q⟩ => exact ⟨V.non, H', J.os, J.bare, J.base, J.hok, rfl, q⟩
  | .brk, ⟨_, _, _, q⟩ => exact q.elim
  | .cont, ⟨_, _, _, q⟩ => exact q.elim
/-- iter(t), n: how many objects there were -/
def rIterN (K : PySem.W.Frag) (n : Nat) : List V → Hp → VK → Prop := fun xs H Q => ∃ (t : Addr) (zs : List V), xs = [.ref t] ∧ SqT K H t zs ∧ ∀ it, H it = none → n ≤ it → Q (.ref it) (upd H it (TiO t it))
theorem call_iterN {X : Cx} : CallR X (.builtin "iter") (rIterN X.K X.s_0.heap.objs.size) := by
  intro pins s σ H xs us Q I r h
  obtain ⟨t, zs, rfl, hq, q⟩ := h
  obtain ⟨u, rfl, ru⟩ := r.one
  cases (show u = Value.ref t from ru)
  obtain ⟨its, rv, pl, hz⟩ := I.tuple hq
  refine Calls.call_function_entry (by decide +kernel) (by decide +kernel) PySem.W.kdk_entry_iter (PySem.W.kdk_args_iter _) ?_
  unfold Builtin.«iter»
  refine wpAny_bind (m := someArgs "iter" 1 2 _) (wpAny_of_eq (a := [Value.ref t]) (by first | rfl | kernel_rfl!) ?_)
  show wpAny _ _ (pyIter (.ref t) >>= _) _ _ _
  refine wpAny_bind (wpAny_pyIter_tuple (items := its.toArray) pl (wpAny_pure ⟨_, rfl, ?_⟩))
  exact ⟨.ref s.heap.objs.size, _, I.laid (t' := s.toks) (fun b u e => Heap.get?_push_of_some _ e) (Nat.le_refl _) (ti_ok ⟨_, Heap.get?_push_size _ rfl, rfl, rfl⟩), rfl, q _ (I.hok.fresh (Nat.le_refl _)) I.sz⟩
/-- such a def, called -/
theorem sure_A {X : Cx} {n : Nat} {A : Around} {Q : VK} {E : XK} {g : Addr} {sp : Nat → Sp} {us : List Value} {ws : List V} {pins : List (Addr × Obj)} {σ : L2.St} {H : Hp} {s : Shared} (F : FnA X.prog X.w X.K X.mg X.base n g sp) (hr : Room n A) (e0 : Env0 X.prog X.w X.K X.mg X.base A X.stack s H) (I : Inv X pins σ H s)
    (r : Vals ws us) (h : sp s.heap.objs.size ws H Q E) : codeAny (model X.prog X.w) A (.call (.ref g) ⟨us, []⟩) (fun r s' => match r with | .ok (.ret v) => EP X pins σ Q v s' | .ok _ => False | .error _ => False) s := by
  refine codeAny_mono (F A X.stack s H us ws Q E hr e0 r h) fun r s' z => ?_
  match r, z with
  | .ok (.ret _), z => exact I.after z
  | .ok .next, z => exact z.elim
  | .ok .brk, z => exact z.elim
  | .ok .cont, z => exact z.elim
  | .error _, z => exact z.elim
def iOwnT (K : PySem.W.Frag) (C : Addr) (spI : Nat → Sp) (EI : XK) (tl : TE) : TI := fun σ H R => tl σ H fun x H1 => ∃ a dx fs, x = .ref a ∧ H1 a = some (.ins C dx fs) ∧
  ∀ m, spI m [.ref a] H1 (fun v H2 => ∃ it t zs, v = .ref it ∧ m ≤ it ∧ H2 it = some (TiO t it) ∧ SqT K H2 t zs ∧ R (Itt K t) (dropH H2 it)) EI
theorem pi_ownT (hs : PySem.W.findIn X.K (.ref C) "__iter__" = some (some (.ref fi))) (hf : PySem.W.isFn X.K (.ref fi) = true) (FI : FnA X.prog X.w X.K X.mg X.base n fi spI) (hr : Room n X.A) {l : Expr} {tl : TE} (hl : PE X l tl) : PI X tg l (iOwnT X.K C spI EI tl) := by
  refine ⟨fun pins s σ H R I h => ?_⟩
  refine thn (hl.run pins s σ H _ I h) fun v s1 ⟨x, H1, I1, r1, q1⟩ => ?_
  obtain ⟨a, dx, fs, e, ha, hsp⟩ := q1
  subst e
  cases r1
  obtain ⟨ox, od, J⟩ := Ow.ins_at I1 ha
  obtain ⟨m0, hF⟩ := I1.fr
  refine PySem.W.owit_iter hF I1.ok.mod.kin J hs hf ?_
  refine wpAny_mono (wpAny_call (sure_A (us := [.ref a]) (ws := [.ref a]) FI hr I1.env0 I1 (.cons rfl .nil) (hsp _))) (fun v s3 hv => ?_) fun _ _ x => x.elim
  obtain ⟨v', H3, I3, rv3, it, t, zs, rfl, yg, hit, ht, q⟩ := hv
  cases (show v = Value.ref it from rv3)
  have st3 : s3.heap.IsTupleIter it t 0 := (I3.hok it _ hit).1
  unfold PySem.W.OwitIt
  refine wpAny_specialOf (name := Str.ofString "__next__") st3.typeIs PySem.F.slot_tuple_iterator_next.lookup ?_
  refine ⟨it, [it], _, _, dropH H3 it, rfl, inv_drop I3 hit, turn_tuple t it, st3, fun b hb => ?_, q⟩
  have e : b = it := by simpa using hb
  rw [e]
  exact inv_fp I3 hit (Nat.le_trans I1.sz yg)
variable {CX : CXT} {k : Nat} {f : Addr} {fd : FuncData} {ps : List Str} {sp : Sp} {e : Expr} {es : List Expr} {t : TA} {x : Str} {p pos : Pos} {ds : List Value} {dvs : List V}
/-- pe_callS of a def with defaults -/
theorem pe_callSD {E : L2.St → XK} (F : FnOk X.prog X.w X.K X.mg X.base CX k f fd ps sp) (hr : Room k X.A) (hg : Gl X x) (hm : X.mg x = some (.ref f)) (hk : PySem.W.keepIn X.K (.ref f) = true) (hb : Binds X.K fd ps ds) (hd : Vals dvs ds) (hx : ∀ σ, PassesAt CX X σ (E σ))
    (ha : PA X (e :: es) t) (hdb : (x == ("__debug__" : Str)) = false := by decide) (he : starEach (e :: es) X.env = (false, eval e X.env) :: starEach es X.env := by rfl) (hpl : (backTo pos (starEach es X.env)).any (·.1) = false := by rfl) :
    PE X (.Call (.Name x p) (e :: es) [] pos) (tCallS (fun vs H Q E => sp (vs ++ dvs) H Q E) E t) := by
  refine ⟨fun pins s σ H Q I h => ?_⟩
  refine wpAny_Call_Name_kw (ld_glob I hg hm ?_ hdb)
  refine PySem.W.callWith_K (h₀ := X.base) I.ok.mod.kin hk (thn (ha.run pos pins s σ H _ I h) fun us s1 ⟨vs, H1, I1, r, q⟩ => ⟨I1.kIn, ?_⟩) he hpl
  refine wpAny_call (codeAny_mono (F.raw hb hd X.A X.stack s1 H1 us vs Q (E σ) hr I1.env0 r q) fun r s' hq => ?_)
  cases r with
  | error e => exact hx σ pins H1 s1 e s' I1 hq
  | ok fl =>
    cases fl with
    | ret u => exact I1.after hq
    | next => exact False.elim hq
    | brk => exact False.elim hq
    | cont => exact False.elim hq
end
end Li

/-! enumerate over a zip of two tuples, the zip's own tuple being held by the pair that enumerate gives out. -/
namespace Ez
open PySem
open PySem.Sem (wp)
/-- a zip's record, whatever its tuple's state -/
abbrev ZRec (h : Heap) (z TI TO : Addr) (f0 : Value) (f : Bool) : Prop :=
  h.get? z = some { cls := .type "zip", dict := none, data := .fields #[f0, .bool f, .bool false, .ref TI, .ref TO], slots := #[] }
def Own (f0 : Value) : Prop := f0 = .none ∨ ∃ T : Addr, f0 = rawInt T
section
variable {prog : Program} {w : World} {A : Around} {E : Value → Shared → Prop} {s : Shared}
theorem lia {T : Addr} {Q : Option Obj → Shared → Prop} (h : Q (s.heap.get? T) s) : wpAny (model prog w) A (loadIfAlive T) Q E s := fun _ _ _ => h
theorem own_look {z TI TO : Addr} {f0 : Value} {f : Bool} {Q : Bool → Shared → Prop} (zr : ZRec s.heap z TI TO f0 f) (ow : Own f0) (yes : Q true s)
    (no : ∀ h', ZRec h' z TI TO f0 true → Heap.SameBut z s.heap h' → Q false { s with heap := h' }) : wpAny (model prog w) A (Builtin.SmallTypes.ownedTupleIsFree (.ref z)) Q E s := by
  unfold Builtin.SmallTypes.ownedTupleIsFree
  rcases ow with rfl | ⟨T, rfl⟩
  · exact wpAny_bind (wpAny_field zr rfl (x := .none) rfl (wpAny_pure yes))
  · refine wpAny_bind (wpAny_field zr rfl (x := rawInt T) rfl ?_)
    show wpAny _ _ (loadIfAlive (Int.toNat (T : Int)) >>= _) _ _ _
    rw [Int.toNat_natCast]
    refine wpAny_bind (lia ?_)
    cases s.heap.get? T with
    | none =>
      simp only [Option.isNone_none, if_true]
      exact wpAny_pure yes
    | some o =>
      simp only [Option.isNone_some, Bool.false_eq_true, if_false]
      refine wpAny_bind (wpAny_field zr rfl (x := .bool f) rfl ?_)
      cases f with
      | true =>
        rw [if_neg (by decide)]
        exact wpAny_pure (no s.heap zr (Heap.SameBut.refl _ _))
      | false =>
        rw [if_pos (by decide)]
        exact wpAny_bind (wpAny_setField_rec zr (by simp) fun g1 zr1 sb1 => wpAny_pure (no g1 zr1 sb1))

theorem zstep {z TI TO i1 i2 l1 l2 : Addr} {k1 k2 : Nat} {xs ys : Array Value} {x y a b f0 : Value} {f : Bool} {Q : Value → Shared → Prop} (D : ZipApart z TI TO i1 i2 l1 l2)
    (zr : ZRec s.heap z TI TO f0 f) (ow : Own f0) (pi : IsPair s.heap TI (.ref i1) (.ref i2)) (po : IsPair s.heap TO a b)
    (j1 : s.heap.IsTupleIter i1 l1 k1) (j2 : s.heap.IsTupleIter i2 l2 k2) (t1 : s.heap.IsTuple l1 xs) (t2 : s.heap.IsTuple l2 ys) (hx : xs[k1]? = some x) (hy : ys[k2]? = some y)
    (q : ∀ g c d e0 e1, ZRec g z TI TO e0 e1 → Own e0 → IsPair g TO c d → g.IsTupleIter i1 l1 (k1 + 1) → g.IsTupleIter i2 l2 (k2 + 1) → IsPair g s.heap.objs.size x y → g.objs.size = s.heap.objs.size + 1 →
      (∀ u o, u ≠ z → u ≠ TO → u ≠ i1 → u ≠ i2 → s.heap.get? u = some o → g.get? u = some o) → Q (.ref s.heap.objs.size) { s with heap := g }) :
    wpAny (model prog w) A (Builtin.«zip.__next__» ⟨[.ref z], []⟩) (fun fin t => ∃ v, fin = .done (.ret v) ∧ Q v t) E s := by
  show wpAny _ _ (field (.ref z) 2 >>= _) _ _ _
  refine wpAny_bind (wpAny_field zr rfl (x := .bool false) rfl ?_)
  show wpAny _ _ (field (.ref z) 3 >>= _) _ _ _
  refine wpAny_bind (wpAny_field zr rfl (x := .ref TI) rfl ?_)
  refine wpAny_bind (wpAny_seqItems pi rfl ?_)
  show wpAny _ _ (Builtin.SmallTypes.ownedTupleIsFree (.ref z) >>= _) _ _ _
  refine wpAny_bind (own_look zr ow ?_ fun g1 z1 b1 => ?_)
  · simp only [if_true]
    refine wpAny_bind (wpAny_rule ?_)
    refine wpAny_bind (wpAny_field zr rfl (x := .ref TO) rfl ?_)
    refine wpAny_bind (wpAny_setField_rec zr (by simp) fun g1 z1 b1 => ?_)
    replace z1 : ZRec g1 z TI TO .ellipsis f := z1
    refine wpAny_bind ?_
    simp only [List.zipIdx_cons, List.zipIdx_nil, List.forIn_cons, List.forIn_nil]
    -- the first one's item
    refine wpAny_bind (wpAny_bind (wpAny_onRaise ?_))
    show wpAny _ _ (Builtin.SmallTypes.nextOf (.ref i1) >>= _) _ _ _
    refine wpAny_bind (RZ.nextOf_tuple_item (j1.extBut b1.extBut D.i1z) (t1.extBut b1.extBut D.l1z) hx fun g2 m1 b2 => wpAny_pure ?_)
    have po2 : IsPair g2 TO a b := b2.extBut _ _ D.TOi1 (b1.extBut _ _ D.TOz po)
    refine wpAny_bind (wpAny_seqItems po2 rfl ?_)
    refine wpAny_bind (wpAny_updateSeq_pair po2 fun g3 po3 b3 => ?_)
    replace po3 : IsPair g3 TO x b := po3
    refine wpAny_bind (wpAny_letGo (wpAny_pure ?_))
    -- the other one's
    refine wpAny_bind (wpAny_bind (wpAny_onRaise ?_))
    show wpAny _ _ (Builtin.SmallTypes.nextOf (.ref i2) >>= _) _ _ _
    refine wpAny_bind (RZ.nextOf_tuple_item (((j2.extBut b1.extBut D.i2z).extBut b2.extBut D.i12.symm).extBut b3.extBut D.TOi2.symm)
      (((t2.extBut b1.extBut D.l2z).extBut b2.extBut D.l2i1).extBut b3.extBut D.l2TO) hy fun g4 m2 b4 => wpAny_pure ?_)
    have po4 : IsPair g4 TO x b := b4.extBut _ _ D.TOi2 po3
    refine wpAny_bind (wpAny_seqItems po4 rfl ?_)
    refine wpAny_bind (wpAny_updateSeq_pair po4 fun g5 po5 b5 => ?_)
    replace po5 : IsPair g5 TO x y := po5
    refine wpAny_bind (wpAny_letGo (wpAny_pure (wpAny_pure ?_)))
    refine wpAny_bind (wpAny_seqItems po5 rfl ?_)
    refine wpAny_bind (wpAny_newTuple ?_)
    have sz : g5.objs.size = s.heap.objs.size := by rw [b5.1, b4.1, b3.1, b2.1, b1.1]
    have z5 : ZRec g5 z TI TO .ellipsis f := b5.extBut _ _ D.TOz.symm (b4.extBut _ _ D.i2z.symm (b3.extBut _ _ D.TOz.symm (b2.extBut _ _ D.i1z.symm z1)))
    have kp : ∀ u o, u ≠ z → u ≠ TO → u ≠ i1 → u ≠ i2 → s.heap.get? u = some o → g5.get? u = some o := fun u o c1 c2 c3 c4 e =>
      b5.extBut _ _ c2 (b4.extBut _ _ c4 (b3.extBut _ _ c2 (b2.extBut _ _ c3 (b1.extBut _ _ c1 e))))
    have n1 : g5.IsTupleIter i1 l1 (k1 + 1) := ((m1.extBut b3.extBut D.TOi1.symm).extBut b4.extBut D.i12).extBut b5.extBut D.TOi1.symm
    have n2 : g5.IsTupleIter i2 l2 (k2 + 1) := m2.extBut b5.extBut D.TOi2.symm
    have zl : z < g5.objs.size := Heap.lt_size z5
    show wpAny _ _ (Builtin.SmallTypes.ownedTupleHandOut (.ref z) (.ref g5.objs.size) >>= _) _ _ _
    refine wpAny_bind ?_
    unfold Builtin.SmallTypes.ownedTupleHandOut
    have z6 : ZRec (g5.push { cls := .type "tuple", data := .seq #[x, y] }) z TI TO .ellipsis f := Heap.get?_push_of_some _ z5
    refine wpAny_bind (wpAny_setField_rec z6 (by simp) fun g7 z7 b7 => ?_)
    replace z7 : ZRec g7 z TI TO (rawInt g5.objs.size) f := z7
    refine wpAny_setField_rec z7 (by simp) fun g8 z8 b8 => ?_
    replace z8 : ZRec g8 z TI TO (rawInt g5.objs.size) false := z8
    have up : ∀ u o, u ≠ z → g5.get? u = some o → g8.get? u = some o := fun u o c e => b8.extBut _ _ c (b7.extBut _ _ c (Heap.get?_push_of_some _ e))
    have pn : IsPair g8 g5.objs.size x y := b8.extBut _ _ (Nat.ne_of_gt zl) (b7.extBut _ _ (Nat.ne_of_gt zl) (Heap.get?_push_size _ rfl))
    have s8 : g8.objs.size = g5.objs.size + 1 := by rw [b8.1, b7.1, Heap.size_push]
    rw [sz] at pn s8
    refine wpAny_pure ⟨_, rfl, ?_⟩
    show Q (.ref g5.objs.size) _
    rw [sz]
    exact q g8 x y _ _ z8 (.inr ⟨_, rfl⟩) (up _ _ D.TOz po5) (n1.at fun o e => up _ o D.i1z e) (n2.at fun o e => up _ o D.i2z e) pn s8 fun u o c1 c2 c3 c4 e => up u o c1 (kp u o c1 c2 c3 c4 e)
  · simp only [Bool.false_eq_true, if_false]
    refine wpAny_bind ?_
    rw [← Array.forIn_toList]
    simp only [List.forIn_cons, List.forIn_nil]
    refine wpAny_bind (wpAny_bind (wpAny_holding ?_))
    show wpAny _ _ (Builtin.SmallTypes.nextOf (.ref i1) >>= _) _ _ _
    refine wpAny_bind (RZ.nextOf_tuple_item (s := { s with heap := g1 }) (j1.extBut b1.extBut D.i1z) (t1.extBut b1.extBut D.l1z) hx fun g2 m1 b2 => wpAny_pure ?_)
    refine wpAny_pure ?_
    refine wpAny_bind (wpAny_bind (wpAny_holding ?_))
    show wpAny _ _ (Builtin.SmallTypes.nextOf (.ref i2) >>= _) _ _ _
    refine wpAny_bind (RZ.nextOf_tuple_item (s := { s with heap := g2 }) ((j2.extBut b1.extBut D.i2z).extBut b2.extBut D.i12.symm) ((t2.extBut b1.extBut D.l2z).extBut b2.extBut D.l2i1) hy fun g3 m2 b3 => wpAny_pure ?_)
    refine wpAny_pure (wpAny_pure ?_)
    show wpAny _ _ (newTuple [x, y] >>= _) _ _ _
    refine wpAny_bind (wpAny_newTuple ?_)
    have sz : g3.objs.size = s.heap.objs.size := by rw [b3.1, b2.1, b1.1]
    have z3 : ZRec g3 z TI TO f0 true := b3.extBut _ _ D.i2z.symm (b2.extBut _ _ D.i1z.symm z1)
    have kp : ∀ u o, u ≠ z → u ≠ i1 → u ≠ i2 → s.heap.get? u = some o → g3.get? u = some o := fun u o c1 c2 c3 e => b3.extBut _ _ c3 (b2.extBut _ _ c2 (b1.extBut _ _ c1 e))
    have n1 : g3.IsTupleIter i1 l1 (k1 + 1) := m1.extBut b3.extBut D.i12
    refine wpAny_pure ⟨_, rfl, ?_⟩
    show Q (.ref g3.objs.size) _
    have pn : IsPair (g3.push { cls := .type "tuple", data := .seq #[x, y] }) g3.objs.size x y := Heap.get?_push_size _ rfl
    have s4 : (g3.push { cls := .type "tuple", data := .seq #[x, y] }).objs.size = g3.objs.size + 1 := Heap.size_push ..
    rw [sz] at pn s4 ⊢
    exact q _ a b _ _ (Heap.get?_push_of_some _ z3) ow (Heap.get?_push_of_some _ (kp _ _ D.TOz D.TOi1 D.TOi2 po)) (n1.at fun o e => Heap.get?_push_of_some _ e) (m2.at fun o e => Heap.get?_push_of_some _ e) pn s4
      fun u o c1 _ c3 c4 e => Heap.get?_push_of_some _ (kp u o c1 c3 c4 e)

theorem zstop {z TI TO i1 i2 l1 l2 : Addr} {k1 k2 : Nat} {xs ys : Array Value} {a b f0 : Value} {f : Bool} {Q : Fin → Shared → Prop} (hh : A.handled = none) (D : ZipApart z TI TO i1 i2 l1 l2)
    (zr : ZRec s.heap z TI TO f0 f) (ow : Own f0) (pi : IsPair s.heap TI (.ref i1) (.ref i2)) (po : IsPair s.heap TO a b)
    (j1 : s.heap.IsTupleIter i1 l1 k1) (j2 : s.heap.IsTupleIter i2 l2 k2) (t1 : s.heap.IsTuple l1 xs) (t2 : s.heap.IsTuple l2 ys) (ends : xs[k1]? = none ∨ ys[k2]? = none)
    (q : ∀ g e, (∀ u o, u ≠ z → u ≠ TO → u ≠ i1 → u ≠ i2 → s.heap.get? u = some o → g.get? u = some o) → (∃ o, g.get? e = some o ∧ o.cls = .type "StopIteration") → E (.ref e) { s with heap := g }) :
    wpAny (model prog w) A (Builtin.«zip.__next__» ⟨[.ref z], []⟩) Q E s := by
  show wpAny _ _ (field (.ref z) 2 >>= _) _ _ _
  refine wpAny_bind (wpAny_field zr rfl (x := .bool false) rfl ?_)
  show wpAny _ _ (field (.ref z) 3 >>= _) _ _ _
  refine wpAny_bind (wpAny_field zr rfl (x := .ref TI) rfl ?_)
  refine wpAny_bind (wpAny_seqItems pi rfl ?_)
  show wpAny _ _ (Builtin.SmallTypes.ownedTupleIsFree (.ref z) >>= _) _ _ _
  refine wpAny_bind (own_look zr ow ?_ fun g1 z1 b1 => ?_)
  · simp only [if_true]
    refine wpAny_bind (wpAny_rule ?_)
    refine wpAny_bind (wpAny_field zr rfl (x := .ref TO) rfl ?_)
    refine wpAny_bind (wpAny_setField_rec zr (by simp) fun g1 z1 b1 => ?_)
    replace z1 : ZRec g1 z TI TO .ellipsis f := z1
    refine wpAny_bind ?_
    simp only [List.zipIdx_cons, List.zipIdx_nil, List.forIn_cons, List.forIn_nil]
    refine wpAny_bind (wpAny_bind (wpAny_onRaise ?_))
    show wpAny _ _ (Builtin.SmallTypes.nextOf (.ref i1) >>= _) _ _ _
    cases hx : xs[k1]? with
    | none =>
      refine wpAny_bind (RZ.nextOf_tuple_end hh (j1.extBut b1.extBut D.i1z) (t1.extBut b1.extBut D.l1z) hx fun g2 e b2 st => ?_)
      obtain ⟨oe, ge, ce⟩ := st
      have z2 : ZRec g2 z TI TO .ellipsis f := b2 _ _ D.i1z.symm z1
      have ez : e ≠ z := fun x => by
        subst x
        rw [z2] at ge
        cases ge
        simp at ce
      refine wpAny_setField_rec z2 (by simp) fun g3 _ b3 => q g3 e (fun u o c1 _ c3 _ x => b3.extBut _ _ c1 (b2 _ _ c3 (b1.extBut _ _ c1 x))) ⟨oe, b3.extBut _ _ ez ge, ce⟩
    | some x =>
      have hy : ys[k2]? = none := by
        rcases ends with c | c
        · rw [hx] at c
          cases c
        · exact c
      refine wpAny_bind (RZ.nextOf_tuple_item (j1.extBut b1.extBut D.i1z) (t1.extBut b1.extBut D.l1z) hx fun g2 m1 b2 => wpAny_pure ?_)
      have po2 : IsPair g2 TO a b := b2.extBut _ _ D.TOi1 (b1.extBut _ _ D.TOz po)
      refine wpAny_bind (wpAny_seqItems po2 rfl ?_)
      refine wpAny_bind (wpAny_updateSeq_pair po2 fun g3 po3 b3 => ?_)
      refine wpAny_bind (wpAny_letGo (wpAny_pure ?_))
      refine wpAny_bind (wpAny_bind (wpAny_onRaise ?_))
      show wpAny _ _ (Builtin.SmallTypes.nextOf (.ref i2) >>= _) _ _ _
      refine wpAny_bind (RZ.nextOf_tuple_end hh (((j2.extBut b1.extBut D.i2z).extBut b2.extBut D.i12.symm).extBut b3.extBut D.TOi2.symm)
        (((t2.extBut b1.extBut D.l2z).extBut b2.extBut D.l2i1).extBut b3.extBut D.l2TO) hy fun g4 e b4 st => ?_)
      obtain ⟨oe, ge, ce⟩ := st
      have z4 : ZRec g4 z TI TO .ellipsis f := b4 _ _ D.i2z.symm (b3.extBut _ _ D.TOz.symm (b2.extBut _ _ D.i1z.symm z1))
      have ez : e ≠ z := fun x => by
        subst x
        rw [z4] at ge
        cases ge
        simp at ce
      refine wpAny_setField_rec z4 (by simp) fun g5 _ b5 => q g5 e (fun u o c1 c2 c3 c4 x => b5.extBut _ _ c1 (b4 _ _ c4 (b3.extBut _ _ c2 (b2.extBut _ _ c3 (b1.extBut _ _ c1 x))))) ⟨oe, b5.extBut _ _ ez ge, ce⟩
  · simp only [Bool.false_eq_true, if_false]
    refine wpAny_bind ?_
    rw [← Array.forIn_toList]
    simp only [List.forIn_cons, List.forIn_nil]
    refine wpAny_bind (wpAny_bind (wpAny_holding ?_))
    show wpAny _ _ (Builtin.SmallTypes.nextOf (.ref i1) >>= _) _ _ _
    cases hx : xs[k1]? with
    | none =>
      refine wpAny_bind (RZ.nextOf_tuple_end (s := { s with heap := g1 }) hh (j1.extBut b1.extBut D.i1z) (t1.extBut b1.extBut D.l1z) hx fun g2 e b2 st => ?_)
      exact q g2 e (fun u o c1 _ c3 _ x => b2 _ _ c3 (b1.extBut _ _ c1 x)) st
    | some x =>
      have hy : ys[k2]? = none := by
        rcases ends with c | c
        · rw [hx] at c
          cases c
        · exact c
      refine wpAny_bind (RZ.nextOf_tuple_item (s := { s with heap := g1 }) (j1.extBut b1.extBut D.i1z) (t1.extBut b1.extBut D.l1z) hx fun g2 m1 b2 => wpAny_pure ?_)
      refine wpAny_pure ?_
      refine wpAny_bind (wpAny_bind (wpAny_holding ?_))
      show wpAny _ _ (Builtin.SmallTypes.nextOf (.ref i2) >>= _) _ _ _
      refine wpAny_bind (RZ.nextOf_tuple_end (s := { s with heap := g2 }) hh ((j2.extBut b1.extBut D.i2z).extBut b2.extBut D.i12.symm) ((t2.extBut b1.extBut D.l2z).extBut b2.extBut D.l2i1) hy fun g3 e b3 st => ?_)
      exact q g3 e (fun u o c1 _ c3 c4 x => b3 _ _ c4 (b2.extBut _ _ c3 (b1.extBut _ _ c1 x))) st

/-- enumerate's step over such a zip: two new tuples, the zip's and its own -/
theorem ebody {e z TI TO i1 i2 l1 l2 : Addr} {i k1 k2 : Nat} {xs ys : Array Value} {x y a b f0 old : Value} {f : Bool} {Q : Value → Shared → Prop} (D : ZipApart z TI TO i1 i2 l1 l2)
    (ez : e ≠ z) (eTO : e ≠ TO) (e1 : e ≠ i1) (e2 : e ≠ i2) (er : IsEnum s.heap e z (i : Int) old)
    (zr : ZRec s.heap z TI TO f0 f) (ow : Own f0) (pi : IsPair s.heap TI (.ref i1) (.ref i2)) (po : IsPair s.heap TO a b)
    (j1 : s.heap.IsTupleIter i1 l1 k1) (j2 : s.heap.IsTupleIter i2 l2 k2) (t1 : s.heap.IsTuple l1 xs) (t2 : s.heap.IsTuple l2 ys) (hx : xs[k1]? = some x) (hy : ys[k2]? = some y)
    (q : ∀ g c d g0 g1 tk, IsEnumOut g e z ((i : Int) + 1) (.ref s.heap.objs.size) (s.heap.objs.size + 1) → ZRec g z TI TO g0 g1 → Own g0 → IsPair g TO c d → g.IsTupleIter i1 l1 (k1 + 1) → g.IsTupleIter i2 l2 (k2 + 1) →
      IsPair g s.heap.objs.size x y → IsPair g (s.heap.objs.size + 1) (.int i tk) (.ref s.heap.objs.size) →
      (∀ u o, u ≠ e → u ≠ z → u ≠ TO → u ≠ i1 → u ≠ i2 → s.heap.get? u = some o → g.get? u = some o) → Q (.ref (s.heap.objs.size + 1)) { s with heap := g, toks := tk + 1 }) :
    wpAny (model prog w) A (Builtin.«enumerate.__next__» ⟨[.ref e], []⟩) (fun fin t => ∃ v, fin = .done (.ret v) ∧ Q v t) E s := by
  obtain ⟨hp, gn, dr, tk, os⟩ := s
  have el : e < hp.objs.size := Heap.lt_size er
  have zl : z < hp.objs.size := Heap.lt_size zr
  show wpAny _ _ (field (.ref e) 2 >>= _) _ _ _
  refine wpAny_bind (wpAny_field er rfl (x := .ref z) rfl ?_)
  have tz : (⟨hp, gn, dr, tk, os⟩ : Shared).TypeIs (.ref z) "zip" := ⟨_, zr, rfl⟩
  refine wpAny_bind ?_
  unfold Builtin.SmallTypes.nextOf
  refine wpAny_bind (wpAny_callSpecial?_slot (name := Str.ofString "__next__") tz F.slot_zip_next
    (wpAny_call_entry F.slot_zip_next tz F.entry_zip_next (zstep D zr ow pi po j1 j2 t1 t2 hx hy fun g c d g0 g1 zg og pg n1 n2 pn sg kp => wpAny_pure ?_) (F.args_zip_next_1 _)))
  change Addr at e
  have s1 : g.objs.size = hp.objs.size + 1 := sg
  have er1 : IsEnum g e z (i : Int) old := kp _ _ ez eTO e1 e2 er
  show wpAny _ _ (field (.ref e) 3 >>= _) _ _ ⟨g, gn, dr, tk, os⟩
  refine wpAny_bind (wpAny_field er1 rfl (x := rawInt i) rfl ?_)
  show wpAny _ _ (field (.ref e) 4 >>= _) _ _ ⟨g, gn, dr, tk, os⟩
  refine wpAny_bind (wpAny_field er1 rfl (x := .none) rfl ?_)
  show wpAny _ _ (mkInt i >>= _) _ _ ⟨g, gn, dr, tk, os⟩
  refine wpAny_bind (wpAny_mkInt ?_)
  show wpAny _ _ (setField (.ref e) 3 (rawInt ((i : Int) + 1)) >>= _) _ _ ⟨g, gn, dr, tk + 1, os⟩
  refine wpAny_bind (wpAny_setField_rec er1 (by simp) fun g2 er2 b2 => ?_)
  replace er2 : IsEnum g2 e z ((i : Int) + 1) old := er2
  replace b2 : Heap.SameBut e g g2 := b2
  show wpAny _ _ (setField (.ref e) 4 .none >>= _) _ _ ⟨g2, gn, dr, tk + 1, os⟩
  refine wpAny_bind (wpAny_setField_rec er2 (by simp) fun g3 er3 b3 => ?_)
  replace er3 : IsEnum g3 e z ((i : Int) + 1) old := er3
  replace b3 : Heap.SameBut e g2 g3 := b3
  show wpAny _ _ (newTuple [.int i tk, .ref hp.objs.size] >>= _) _ _ ⟨g3, gn, dr, tk + 1, os⟩
  refine wpAny_bind (wpAny_newTuple ?_)
  have er4 : IsEnum (g3.push { cls := .type "tuple", data := .seq #[.int i tk, .ref hp.objs.size] }) e z ((i : Int) + 1) old := Heap.get?_push_of_some _ er3
  generalize eg4 : g3.push { cls := .type "tuple", data := .seq #[.int i tk, .ref hp.objs.size] } = g4 at er4
  have s3 : g3.objs.size = hp.objs.size + 1 := by rw [b3.1, b2.1, s1]
  have nt4 : IsPair g4 (hp.objs.size + 1) (.int i tk) (.ref hp.objs.size) := by
    rw [← eg4, ← s3]
    exact Heap.get?_push_size _ rfl
  have up4 : ∀ u o, u ≠ e → g.get? u = some o → g4.get? u = some o := fun u o c h => by
    rw [← eg4]
    exact Heap.get?_push_of_some _ (b3.extBut u o c (b2.extBut u o c h))
  show wpAny _ _ (Builtin.SmallTypes.ownedTupleIsFree (.ref e) >>= _) _ _ ⟨g4, gn, dr, tk + 1, os⟩
  rw [s3]
  refine wpAny_bind ?_
  unfold Builtin.SmallTypes.ownedTupleIsFree
  refine wpAny_bind (wpAny_field er4 rfl (x := .none) rfl (wpAny_pure ?_))
  simp only [if_true]
  refine wpAny_bind (wpAny_rule ?_)
  refine wpAny_bind (wpAny_field er4 rfl (x := old) rfl ?_)
  refine wpAny_bind (wpAny_setField_rec er4 (by simp) fun g5 er5 b5 => ?_)
  replace er5 : IsEnum g5 e z ((i : Int) + 1) (.ref hp.objs.size) := er5
  replace b5 : Heap.SameBut e g4 g5 := b5
  show wpAny _ _ (Builtin.SmallTypes.ownedTupleHandOut (.ref e) (.ref (hp.objs.size + 1)) >>= _) _ _ ⟨g5, gn, dr, tk + 1, os⟩
  refine wpAny_bind ?_
  unfold Builtin.SmallTypes.ownedTupleHandOut
  refine wpAny_bind (wpAny_setField_rec er5 (by simp) fun g6 er6 b6 => ?_)
  replace er6 : IsEnumOut g6 e z ((i : Int) + 1) (.ref hp.objs.size) (hp.objs.size + 1) := er6
  replace b6 : Heap.SameBut e g5 g6 := b6
  refine wpAny_setField_rec er6 (by simp) fun g7 er7 b7 => ?_
  replace er7 : IsEnumOut g7 e z ((i : Int) + 1) (.ref hp.objs.size) (hp.objs.size + 1) := er7
  replace b7 : Heap.SameBut e g6 g7 := b7
  have up : ∀ u o, u ≠ e → g4.get? u = some o → g7.get? u = some o := fun u o c h => b7.extBut u o c (b6.extBut u o c (b5.extBut u o c h))
  have Ne : hp.objs.size ≠ e := Nat.ne_of_gt el
  have Ne1 : hp.objs.size + 1 ≠ e := Nat.ne_of_gt (Nat.lt_succ_of_lt el)
  refine wpAny_bind (wpAny_letGo (wpAny_pure ⟨_, rfl, q g7 c d g0 g1 tk er7 ?_ og ?_ ?_ ?_ ?_ ?_ ?_⟩))
  · exact up _ _ ez.symm (up4 _ _ ez.symm zg)
  · exact up _ _ eTO.symm (up4 _ _ eTO.symm pg)
  · exact n1.at fun o h => up _ o e1.symm (up4 _ o e1.symm h)
  · exact n2.at fun o h => up _ o e2.symm (up4 _ o e2.symm h)
  · exact up _ _ Ne (up4 _ _ Ne pn)
  · exact up _ _ Ne1 nt4
  · exact fun u o c0 c1 c2 c3 c4 h => up u o c0 (up4 u o c0 (kp u o c1 c2 c3 c4 h))
theorem estep {e z TI TO i1 i2 l1 l2 : Addr} {i k1 k2 : Nat} {xs ys : Array Value} {x y a b f0 old : Value} {f : Bool} {Q : Option Value → Shared → Prop} (D : ZipApart z TI TO i1 i2 l1 l2)
    (ez : e ≠ z) (eTO : e ≠ TO) (e1 : e ≠ i1) (e2 : e ≠ i2) (er : IsEnum s.heap e z (i : Int) old)
    (zr : ZRec s.heap z TI TO f0 f) (ow : Own f0) (pi : IsPair s.heap TI (.ref i1) (.ref i2)) (po : IsPair s.heap TO a b)
    (j1 : s.heap.IsTupleIter i1 l1 k1) (j2 : s.heap.IsTupleIter i2 l2 k2) (t1 : s.heap.IsTuple l1 xs) (t2 : s.heap.IsTuple l2 ys) (hx : xs[k1]? = some x) (hy : ys[k2]? = some y)
    (q : ∀ g c d g0 g1 tk, IsEnumOut g e z ((i : Int) + 1) (.ref s.heap.objs.size) (s.heap.objs.size + 1) → ZRec g z TI TO g0 g1 → Own g0 → IsPair g TO c d → g.IsTupleIter i1 l1 (k1 + 1) → g.IsTupleIter i2 l2 (k2 + 1) →
      IsPair g s.heap.objs.size x y → IsPair g (s.heap.objs.size + 1) (.int i tk) (.ref s.heap.objs.size) →
      (∀ u o, u ≠ e → u ≠ z → u ≠ TO → u ≠ i1 → u ≠ i2 → s.heap.get? u = some o → g.get? u = some o) → Q (some (.ref (s.heap.objs.size + 1))) { s with heap := g, toks := tk + 1 }) :
    wpAny (model prog w) A (pyNext (.ref e)) Q E s := by
  have ty : s.TypeIs (.ref e) "enumerate" := ⟨_, er, rfl⟩
  unfold pyNext
  exact wpAny_bind (wpAny_attempt (wpAny_callSpecial?_slot (name := Str.ofString "__next__") ty F.slot_enumerate_next
    (wpAny_call_entry F.slot_enumerate_next ty F.entry_enumerate_next
      (ebody D ez eTO e1 e2 er zr ow pi po j1 j2 t1 t2 hx hy fun g c d g0 g1 tk x1 x2 x3 x4 x5 x6 x7 x8 x9 => wpAny_pure (q g c d g0 g1 tk x1 x2 x3 x4 x5 x6 x7 x8 x9)) (F.args_enumerate_next_1 _))))
theorem estop {e z TI TO i1 i2 l1 l2 : Addr} {i : Int} {k1 k2 : Nat} {xs ys : Array Value} {a b f0 old : Value} {f : Bool} {Q : Option Value → Shared → Prop} (hh : A.handled = none) (D : ZipApart z TI TO i1 i2 l1 l2)
    (er : IsEnum s.heap e z i old)
    (zr : ZRec s.heap z TI TO f0 f) (ow : Own f0) (pi : IsPair s.heap TI (.ref i1) (.ref i2)) (po : IsPair s.heap TO a b)
    (j1 : s.heap.IsTupleIter i1 l1 k1) (j2 : s.heap.IsTupleIter i2 l2 k2) (t1 : s.heap.IsTuple l1 xs) (t2 : s.heap.IsTuple l2 ys) (ends : xs[k1]? = none ∨ ys[k2]? = none)
    (q : ∀ g, (∀ u o, u ≠ z → u ≠ TO → u ≠ i1 → u ≠ i2 → s.heap.get? u = some o → g.get? u = some o) → Q none { s with heap := g }) :
    wpAny (model prog w) A (pyNext (.ref e)) Q E s := by
  have ty : s.TypeIs (.ref e) "enumerate" := ⟨_, er, rfl⟩
  have tz : s.TypeIs (.ref z) "zip" := ⟨_, zr, rfl⟩
  unfold pyNext
  refine wpAny_bind (wpAny_attempt (wpAny_callSpecial?_slot (name := Str.ofString "__next__") ty F.slot_enumerate_next
    (wpAny_call_entry F.slot_enumerate_next ty F.entry_enumerate_next ?_ (F.args_enumerate_next_1 _))))
  show wpAny _ _ (field (.ref e) 2 >>= _) _ _ _
  refine wpAny_bind (wpAny_field er rfl (x := .ref z) rfl ?_)
  refine wpAny_bind ?_
  unfold Builtin.SmallTypes.nextOf
  refine wpAny_bind (wpAny_callSpecial?_slot (name := Str.ofString "__next__") tz F.slot_zip_next
    (wpAny_call_entry F.slot_zip_next tz F.entry_zip_next (zstop hh D zr ow pi po j1 j2 t1 t2 ends fun g x kp st => ?_) (F.args_zip_next_1 _)))
  obtain ⟨o, ho, hc⟩ := st
  refine wpAny_bind (wpAny_isInstance (T := "StopIteration") (b := true) ⟨o, ho, hc⟩ isSubtype_stop ?_)
  exact wpAny_pure (q _ kp)

theorem meets_enz (z TI TO : Addr) :
    Meets (Builtin.«enumerate.__new__» ⟨[.type "enumerate", .ref z], []⟩) (fun _ R s => IsZip s.heap z TI TO .none ∧
      R (.ok (.ret (.ref s.heap.objs.size))) { s with heap := s.heap.push { cls := .type "enumerate", data := .fields #[.none, .bool false, .ref z, rawInt 0, .none, .none] } }) :=
  .of_wp fun prog w A R s h => by
    obtain ⟨hp, gn, dr, tk, os⟩ := s
    obtain ⟨zr, h⟩ := h
    have hsub := sub_enumerate
    have zr' : IsZip (Shared.heap ⟨hp, gn, dr, tk, os⟩) z TI TO .none := zr
    wp_walk using AutoSeq1.wpAny_loadPart' zr
    refine wpAny_stack_any fun st => wpAny_pure ?_
    split
    · rename_i c _ _ _ _ _
      cases (c == Value.type "enumerate")
      · wp_walk using AutoSeq1.wpAny_loadPart' zr, wpAny_pyIter_zip zr'
        exact ⟨_, rfl, h⟩
      · wp_walk using AutoSeq1.wpAny_loadPart' zr, wpAny_pyIter_zip zr'
        exact ⟨_, rfl, h⟩
    · wp_walk using AutoSeq1.wpAny_loadPart' zr, wpAny_pyIter_zip zr'
      exact ⟨_, rfl, h⟩
theorem call_enz {z TI TO : Addr} {Q : Value → Shared → Prop} (zr : IsZip s.heap z TI TO .none)
    (h : ∀ g, IsEnum g s.heap.objs.size z 0 .none → g.objs.size = s.heap.objs.size + 1 → (∀ b o, s.heap.get? b = some o → g.get? b = some o) → Q (.ref s.heap.objs.size) { s with heap := g }) :
    wpAny (model prog w) A (call (.type "enumerate") [.ref z]) Q E s := by
  refine callType_new F.called_enumerate (by decide) (F.typeCall_enumerate_1 _) (F.newCall_enumerate_1 _) (fun obj => F.args_object_init_2 obj _) F.entry_enumerate_new
    (meets_enz z TI TO) ⟨zr, ?_⟩
  have er : IsEnum (s.heap.push { cls := .type "enumerate", data := .fields #[.none, .bool false, .ref z, rawInt 0, .none, .none] }) s.heap.objs.size z 0 .none := Heap.get?_push_size _ rfl
  exact ⟨⟨_, er, rfl⟩, h _ er (Heap.size_push ..) fun b o x => Heap.get?_push_of_some _ x⟩
end
end Ez
/-! The same as a thing that a for walks. -/
namespace Ez
open PySem PySem.Spec PyProof.Rows L2 RZ
def Ite2 (K : PySem.W.Frag) (a b : Addr) : It :=
  ⟨fun i H => ∃ (xs ys : List V) (x y : V), SqT K H a xs ∧ SqT K H b ys ∧ xs[i]? = some x ∧ ys[i]? = some y,
    fun i H v H' => ∃ T U x y, v = .ref U ∧ H T = none ∧ upd H T (.tup [x, y]) U = none ∧ H' = upd (upd H T (.tup [x, y])) U (.tup [.int (i : Nat), .ref T]) ∧ (∀ xs, SqT K H a xs → xs[i]? = some x) ∧ ∀ ys, SqT K H b ys → ys[i]? = some y,
    fun i H => ∃ xs ys : List V, SqT K H a xs ∧ SqT K H b ys ∧ (xs.length ≤ i ∨ ys.length ≤ i)⟩
theorem turn_ez {P : Program} {w : World} {K : PySem.W.Frag} {elts : List Expr} {kk : Nat} {tpos : Pos} {a b e z TI TO i1 i2 : Addr} (D : ZipApart z TI TO i1 i2 a b) (ez : e ≠ z) (eTI : e ≠ TI) (eTO : e ≠ TO) (e1 : e ≠ i1) (e2 : e ≠ i2) :
    Turn P w K (.Tuple elts kk tpos) (Ite2 K a b) [e, z, TI, TO, i1, i2] e (fun i h => (∃ old, IsEnum h e z ((i : Nat) : Int) old) ∧ (∃ f0 f, ZRec h z TI TO f0 f ∧ Own f0) ∧ PySem.IsPair h TI (.ref i1) (.ref i2) ∧ (∃ x y, PySem.IsPair h TO x y) ∧ h.IsTupleIter i1 a i ∧ h.IsTupleIter i2 b i) where
  mem := by simp
  obj := fun i h st c hc => by
    obtain ⟨⟨old, er⟩, ⟨f0, f, zr, _⟩, pi, ⟨x, y, po⟩, ⟨o1, q1, _, d1⟩, ⟨o2, q2, _, d2⟩⟩ := st
    have c' : c = e ∨ c = z ∨ c = TI ∨ c = TO ∨ c = i1 ∨ c = i2 := by simpa using hc
    rcases c' with q | q | q | q | q | q
    · rw [q]; exact ⟨_, er, fun v r => nomatch r⟩
    · rw [q]; exact ⟨_, zr, fun v r => nomatch r⟩
    · rw [q]; exact ⟨_, pi, fun v r => nomatch r⟩
    · rw [q]; exact ⟨_, po, fun v r => nomatch r⟩
    · rw [q]; exact ⟨o1, q1, fun v r => by rw [d1] at r; cases r⟩
    · rw [q]; exact ⟨o2, q2, fun v r => by rw [d2] at r; cases r⟩
  keep := fun i h g st k => by
    obtain ⟨⟨old, er⟩, ⟨f0, f, zr, ow⟩, pi, ⟨x, y, po⟩, j1, j2⟩ := st
    exact ⟨⟨old, k e (by simp) _ er⟩, ⟨f0, f, k z (by simp) _ zr, ow⟩, k TI (by simp) _ pi, ⟨x, y, k TO (by simp) _ po⟩, j1.at fun o q => k i1 (by simp) o q, j2.at fun o q => k i2 (by simp) o q⟩
  item := by
    intro X hP hw hK hc i pins s σ H E I hf st hg
    subst hP hw hK
    obtain ⟨⟨old, er⟩, ⟨f0, f, zr, ow⟩, pi, ⟨x0, y0, po⟩, j1, j2⟩ := st
    obtain ⟨xs, ys, x, y, qx, qy, hx, hy⟩ := hg
    obtain ⟨us, ru, pu, _⟩ := I.tuple qx
    obtain ⟨ws, rw', pw, _⟩ := I.tuple qy
    obtain ⟨u, hu, r1⟩ := ru.get hx
    obtain ⟨v, hv, r2⟩ := rw'.get hy
    have el : e < s.heap.objs.size := Heap.lt_size er
    have lts : ∀ c, c ∈ [e, z, TI, TO, i1, i2] → c < s.heap.objs.size := fun c hcm => by
      have c' : c = e ∨ c = z ∨ c = TI ∨ c = TO ∨ c = i1 ∨ c = i2 := by simpa using hcm
      rcases c' with q | q | q | q | q | q
      · rw [q]; exact el
      · rw [q]; exact Heap.lt_size zr
      · rw [q]; exact Heap.lt_size pi
      · rw [q]; exact Heap.lt_size po
      · rw [q]; obtain ⟨_, t, _⟩ := j1; exact Heap.lt_size t
      · rw [q]; obtain ⟨_, t, _⟩ := j2; exact Heap.lt_size t
    refine estep (k1 := i) (k2 := i) D ez eTO e1 e2 er zr ow pi po j1 j2 pu pw (x := u) (y := v) (by simpa using hu) (by simpa using hv) fun g c d g0 g1 tk eo zg og pg n1 n2 pn pm kp => ?_
    refine ⟨_, rfl, wpAny_letOwnedTupleGo_enum (s := { s with heap := g, toks := tk + 1 }) eo fun h1 er1 sb => ?_⟩
    have fr : H s.heap.objs.size = none := I.hok.fresh (Nat.le_refl _)
    have fr1 : upd H s.heap.objs.size (.tup [x, y]) (s.heap.objs.size + 1) = none := by
      rw [upd_ne (Nat.succ_ne_self _)]
      exact I.hok.fresh (Nat.le_succ _)
    have pn1 : PySem.IsPair h1 s.heap.objs.size u v := (sb.2 _ (Nat.ne_of_gt el)).trans pn
    have pm1 : PySem.IsPair h1 (s.heap.objs.size + 1) (.int i tk) (.ref s.heap.objs.size) := (sb.2 _ (Nat.ne_of_gt (Nat.lt_succ_of_lt el))).trans pm
    -- a heap in between, with the zip's pair alone
    have Im : Inv X pins σ (upd H s.heap.objs.size (.tup [x, y])) { s with heap := s.heap.push { cls := .type "tuple", data := .seq #[u, v] } } :=
      I.turnedNew (t' := s.toks) (ch := []) (fun b o _ q => Heap.get?_push_of_some _ q) (fun b hb => absurd hb List.not_mem_nil) (Nat.le_refl _)
        ⟨by show 2 ≤ sizeLine; decide, [u, v], .cons r1 (.cons r2 .nil), ⟨_, Heap.get?_push_size _ rfl, rfl, _, rfl⟩⟩
    have szm : (s.heap.push { cls := .type "tuple", data := .seq #[u, v] }).objs.size = s.heap.objs.size + 1 := Heap.size_push ..
    have I1 : Inv X pins σ (upd (upd H s.heap.objs.size (.tup [x, y])) (s.heap.objs.size + 1) (.tup [.int (i : Nat), .ref s.heap.objs.size])) { s with heap := h1, toks := tk + 1 } := by
      refine Im.turnedNew (t' := tk + 1) (ch := [e, z, TI, TO, i1, i2]) (fun b o hb q => ?_) (fun b hb => ?_) (by show (s.heap.push _).objs.size ≤ _; rw [szm]; exact Nat.le_refl _) ⟨by show 2 ≤ sizeLine; decide, [.int i tk, .ref s.heap.objs.size], .cons ⟨_, rfl⟩ (.cons rfl .nil), ⟨_, pm1, rfl, _, rfl⟩⟩
      · by_cases hN : b = s.heap.objs.size
        · subst hN
          have q2 : (s.heap.push { cls := .type "tuple", data := .seq #[u, v] }).get? s.heap.objs.size = some o := q
          rw [Heap.get?_push_size _ rfl] at q2
          rw [← Option.some.inj q2]
          exact pn1
        · have q2 : (s.heap.push { cls := .type "tuple", data := .seq #[u, v] }).get? b = some o := q
          have q3 : s.heap.get? b = some o := by
            rw [← q2]
            exact (Heap.get?_push_ne s.heap b _ hN).symm
          exact (sb.2 b fun t => hb (by simp [t])).trans (kp b o (fun t => hb (by simp [t])) (fun t => hb (by simp [t])) (fun t => hb (by simp [t])) (fun t => hb (by simp [t])) (fun t => hb (by simp [t])) q3)
      · obtain ⟨f0, f1⟩ := hf b hb
        exact ⟨by rw [upd_ne (Nat.ne_of_lt (lts b hb))]; exact f0, f1⟩
    refine ⟨.ref (s.heap.objs.size + 1), _, I1, rfl, ⟨s.heap.objs.size, s.heap.objs.size + 1, x, y, rfl, fr, fr1, rfl, fun l hl => by rw [I.tuple_inj hl qx]; exact hx, fun l hl => by rw [I.tuple_inj hl qy]; exact hy⟩,
      ⟨⟨_, by have ei : ((i + 1 : Nat) : Int) = (i : Int) + 1 := by omega
              rw [ei]; exact er1⟩, ⟨g0, g1, (sb.2 _ ez.symm).trans zg, og⟩, ?_, ⟨c, d, (sb.2 _ eTO.symm).trans pg⟩, n1.at fun o q => (sb.2 _ e1.symm).trans q, n2.at fun o q => (sb.2 _ e2.symm).trans q⟩, fun b hb => ?_⟩
    · exact (sb.2 _ eTI.symm).trans (kp _ _ eTI.symm D.TIz D.TITO D.TIi1 D.TIi2 pi)
    · have lb := lts b hb
      rw [upd_ne (Nat.ne_of_lt (Nat.lt_succ_of_lt lb)), upd_ne (Nat.ne_of_lt lb)]
      exact (hf b hb).1
  done := by
    intro X hP hw hK hc i pins s σ H E I hf st hg
    subst hP hw hK
    obtain ⟨⟨old, er⟩, ⟨f0, f, zr, ow⟩, pi, ⟨x0, y0, po⟩, j1, j2⟩ := st
    obtain ⟨xs, ys, qx, qy, ends⟩ := hg
    obtain ⟨us, ru, pu, _⟩ := I.tuple qx
    obtain ⟨ws, rw', pw, _⟩ := I.tuple qy
    have l1 := ru.length
    have l2 := rw'.length
    have en : us.toArray[i]? = none ∨ ws.toArray[i]? = none := by
      rcases ends with q | q
      · exact .inl (by simp; omega)
      · exact .inr (by simp; omega)
    exact estop (I.ok.hd hc) D er zr ow pi po j1 j2 pu pw en fun g kp => ⟨rfl, I.turnedL (t' := s.toks) (ch := [e, z, TI, TO, i1, i2]) (fun b o hb q =>
      kp b o (fun t => hb (by simp [t])) (fun t => hb (by simp [t])) (fun t => hb (by simp [t])) (fun t => hb (by simp [t])) q) hf⟩
  self := fun A i s Q E st h => let ⟨⟨_, er⟩, _⟩ := st; wpAny_pyIter_enum er h

theorem ne_off {n : Nat} (i j : Nat) (h : i ≠ j) : n + i ≠ n + j := fun e => h (Nat.add_left_cancel e)
def iEz (K : PySem.W.Frag) (ta : TA) : TI := fun σ H R => ta σ H fun vs H1 => ∃ a b xs ys, vs = [.ref a, .ref b] ∧ SqT K H1 a xs ∧ SqT K H1 b ys ∧ R (Ite2 K a b) H1
theorem pi_enumzip {X : Cx} {d1 d2 : Expr} {ta : TA} {p p2 pos pos2 tpos : Pos} {elts : List Expr} {kk : Nat} (hg : Gl X "enumerate") (hm : X.mg "enumerate" = none) (hg2 : Gl X "zip") (hm2 : X.mg "zip" = none) (ha : PA X [d1, d2] ta)
    (hs : starEach [.Call (.Name "zip" p2) [d1, d2] [] pos2] X.env = [(false, eval (.Call (.Name "zip" p2) [d1, d2] [] pos2) X.env)] := by rfl)
    (hs2 : starEach [d1, d2] X.env = (false, eval d1 X.env) :: starEach [d2] X.env := by rfl) (hpl : (backTo pos2 (starEach [d2] X.env)).any (·.1) = false := by rfl) :
    PI X (.Tuple elts kk tpos) (.Call (.Name "enumerate" p) [.Call (.Name "zip" p2) [d1, d2] [] pos2] [] pos) (iEz X.K ta) := by
  refine ⟨fun pins s σ H R I h => ?_⟩
  refine Call_ (ld_blt I hg hm boot_enumerate (PyProof.Rows.callWith_type1 ?_ hs rfl))
  rw [hs]
  show wpAny _ _ (spliced [(false, eval (.Call (.Name "zip" p2) [d1, d2] [] pos2) X.env)]) _ _ s
  refine Calls.spliced_cons ?_
  refine Call_ (ld_blt I hg2 hm2 PyProof.Rows.boot_zip (PyProof.Rows.callWith_type1 (thn (ha.run pos2 pins s σ H _ I h) fun us s1 ⟨vs, H1, I1, r1, q1⟩ => ?_) hs2 hpl))
  obtain ⟨a, b, xs, ys, ev, qx, qy, q⟩ := q1
  subst ev
  cases r1 with
  | cons r rr =>
    cases rr with
    | cons r' rr =>
      cases rr
      cases r
      cases r'
      obtain ⟨us, ru, pu, _⟩ := I1.tuple qx
      obtain ⟨ws, rw', pw, _⟩ := I1.tuple qy
      obtain ⟨o1, ho1, _⟩ := id pu
      obtain ⟨o2, ho2, _⟩ := id pw
      refine RZ.call_zipT (show s1.heap.IsTuple a us.toArray from pu) (show s1.heap.IsTuple b ws.toArray from pw) fun g zr pi po j1 j2 sg kg => ?_
      refine Calls.spliced_nil ?_
      refine call_enz zr fun g2 er s2 kg2 => wpAny_pyIter_enum er ?_
      have s6 : g.objs.size = s1.heap.objs.size + 5 := sg
      have I2 : Inv X pins σ H1 { s1 with heap := g2 } := I1.kept (t' := s1.toks) fun c o q => kg2 c o (kg c o q)
      have er' : IsEnum g2 (s1.heap.objs.size + 5) (s1.heap.objs.size + 4) 0 .none := by
        rw [← s6]
        exact er
      have ee : (g.objs.size : Addr) = s1.heap.objs.size + 5 := s6
      show PIE X pins σ _ R (.ref g.objs.size) _
      rw [ee]
      refine ⟨s1.heap.objs.size + 5, [s1.heap.objs.size + 5, s1.heap.objs.size + 4, s1.heap.objs.size + 2, s1.heap.objs.size + 3, s1.heap.objs.size, s1.heap.objs.size + 1], _, _, H1, rfl, I2,
        turn_ez (PySem.W.ktu_apart s1.heap.objs.size a b (Heap.lt_size ho1) (Heap.lt_size ho2)) (ne_off 5 4 (by decide)) (ne_off 5 2 (by decide)) (ne_off 5 3 (by decide)) (ne_off 5 0 (by decide)) (ne_off 5 1 (by decide)),
        ⟨⟨_, er'⟩, ⟨_, _, kg2 _ _ zr, .inl rfl⟩, kg2 _ _ pi, ⟨_, _, kg2 _ _ po⟩, j1.at fun o q => kg2 _ o q, j2.at fun o q => kg2 _ o q⟩, fun c hcm => ?_, q⟩
      have c' : c = s1.heap.objs.size + 5 ∨ c = s1.heap.objs.size + 4 ∨ c = s1.heap.objs.size + 2 ∨ c = s1.heap.objs.size + 3 ∨ c = s1.heap.objs.size ∨ c = s1.heap.objs.size + 1 := by simpa using hcm
      have le : s1.heap.objs.size ≤ c := by
        rcases c' with t | t | t | t | t | t
        · rw [t]; exact Nat.le_add_right _ _
        · rw [t]; exact Nat.le_add_right _ _
        · rw [t]; exact Nat.le_add_right _ _
        · rw [t]; exact Nat.le_add_right _ _
        · rw [t]; exact Nat.le_refl _
        · rw [t]; exact Nat.le_add_right _ _
      exact I1.fpOk le (I1.hok.fresh le)
end Ez

/-! A row in a row: by ticks and by blocks. -/
namespace Wm
open PySem L2
/-- the blocks: where each begins, and how many strokes it has -/
def spans : Nat → List Nat → List (Nat × Nat)
  | _, [] => []
  | f, d :: ds => (f, d) :: spans (f + 2 * d + 2) ds
theorem spans_len : ∀ (f : Nat) (ds : List Nat), (spans f ds).length = ds.length
  | _, [] => rfl
  | f, d :: ds => by rw [spans, List.length_cons, List.length_cons, spans_len _ ds]
theorem spans_app : ∀ (f : Nat) (ds : List Nat) (d : Nat), spans f (ds ++ [d]) = spans f ds ++ [(f + 2 * (ds.sum + ds.length), d)]
  | f, [], d => by simp [spans]
  | f, x :: ds, d => by
    rw [List.cons_append, spans, spans, spans_app _ ds d, List.cons_append, List.sum_cons, List.length_cons]
    have : f + 2 * x + 2 + 2 * (ds.sum + ds.length) = f + 2 * (x + ds.sum + (ds.length + 1)) := by omega
    rw [this]
theorem ones_blk_mem (f k : Nat) : ∀ d, k ∈ ones f (blk d) ↔ ∃ j, j < d ∧ k = f + 2 * j
  | 0 => by
    have : ones f (blk 0) = [] := rfl
    rw [this]
    exact ⟨fun h => absurd h List.not_mem_nil, fun ⟨j, h, _⟩ => absurd h (Nat.not_lt_zero _)⟩
  | d + 1 => by
    rw [ones_blk, List.mem_append, ones_blk_mem f k d, List.mem_singleton]
    constructor
    · rintro (⟨j, h, e⟩ | h)
      · exact ⟨j, by omega, e⟩
      · exact ⟨d, by omega, h⟩
    · rintro ⟨j, h, e⟩
      by_cases c : j = d
      · subst c; exact .inr e
      · exact .inl ⟨j, by omega, e⟩
theorem ones_spans : ∀ (ds : List Nat) (f k : Nat), k ∈ ones f (rowL ds) ↔ ∃ p ∈ spans f ds, ∃ j, j < p.2 ∧ k = p.1 + 2 * j
  | [], f, k => by
    have : ones f (rowL []) = [] := rfl
    rw [this]
    exact ⟨fun h => absurd h List.not_mem_nil, fun ⟨p, h, _⟩ => absurd h List.not_mem_nil⟩
  | d :: ds, f, k => by
    have e : ones f (rowL (d :: ds)) = ones f (blk d) ++ ones (f + 2 * d + 2) (rowL ds) := by
      show ones f (blk d ++ ([0, 0] ++ rowL ds)) = _
      rw [ones_app, ones_app, blk_len]
      rfl
    rw [e, List.mem_append, ones_blk_mem, ones_spans ds, spans]
    constructor
    · rintro (h | ⟨p, m, h⟩)
      · exact ⟨(f, d), List.mem_cons_self, h⟩
      · exact ⟨p, List.mem_cons_of_mem _ m, h⟩
    · rintro ⟨p, m, h⟩
      rcases List.mem_cons.mp m with rfl | m
      · exact .inl h
      · exact .inr ⟨p, m, h⟩
theorem spans_ge : ∀ (ds : List Nat) (f : Nat) (p : Nat × Nat), p ∈ spans f ds → f ≤ p.1 ∧ p.1 % 2 = f % 2 ∧ p.2 ∈ ds
  | [], f, p, h => by cases h
  | d :: ds, f, p, h => by
    rw [spans] at h
    rcases List.mem_cons.mp h with rfl | m
    · exact ⟨Nat.le_refl _, rfl, List.mem_cons_self⟩
    · obtain ⟨a, b, c⟩ := spans_ge ds _ p m
      exact ⟨by omega, by omega, List.mem_cons_of_mem _ c⟩
theorem spans_up : ∀ (ds : List Nat) (f : Nat), (spans f ds).Pairwise fun p q => p.1 + 2 * p.2 + 2 ≤ q.1
  | [], f => .nil
  | d :: ds, f => by
    rw [spans]
    exact .cons (fun q m => (spans_ge ds _ q m).1) (spans_up ds _)
theorem tri {α : Type} {R : α → α → Prop} {a b : α} : ∀ {l : List α}, l.Pairwise R → a ∈ l → b ∈ l → a = b ∨ R a b ∨ R b a
  | [], _, h, _ => by cases h
  | x :: l, h, ha, hb => by
    rw [List.pairwise_cons] at h
    rcases List.mem_cons.mp ha with rfl | ma
    · rcases List.mem_cons.mp hb with rfl | mb
      · exact .inl rfl
      · exact .inr (.inl (h.1 _ mb))
    · rcases List.mem_cons.mp hb with rfl | mb
      · exact .inr (.inr (h.1 _ ma))
      · exact tri h.2 ma mb
/-- block p, moved by a, within block q -/
def inB (a : Int) (p q : Nat × Nat) : Bool := decide (a % 2 = 0 ∧ (q.1 : Int) ≤ a + p.1 ∧ a + ((p.1 : Int) + 2 * ((p.2 : Int) - 1)) ≤ (q.1 : Int) + 2 * ((q.2 : Int) - 1))
theorem inB_iff {a : Int} {p q : Nat × Nat} (h1 : p.1 % 2 = 0) (h2 : 1 ≤ p.2) (h3 : q.1 % 2 = 0) : inB a p q = true ↔ ∀ j, j < p.2 → ∃ i, i < q.2 ∧ (p.1 : Int) + 2 * (j : Nat) + a = (q.1 : Int) + 2 * (i : Nat) := by
  unfold inB
  rw [decide_eq_true_iff]
  constructor
  · rintro ⟨x, y, z⟩ j hj
    refine ⟨(((p.1 : Int) + 2 * (j : Nat) + a - q.1) / 2).toNat, ?_, ?_⟩
    · omega
    · omega
  · intro h
    obtain ⟨i, hi, e⟩ := h 0 (by omega)
    obtain ⟨i2, hi2, e2⟩ := h (p.2 - 1) (by omega)
    exact ⟨by omega, by omega, by omega⟩
/-- the strokes' offsets -/
def SI (ds : List Nat) : List Int := (ones 0 (rowL ds)).map fun (k : Nat) => (k : Int)
theorem SI_mem {ds : List Nat} {k : Int} : k ∈ SI ds ↔ ∃ p ∈ spans 0 ds, ∃ j : Nat, j < p.2 ∧ k = (p.1 : Int) + 2 * (j : Int) := by
  unfold SI
  rw [List.mem_map]
  constructor
  · rintro ⟨n, m, rfl⟩
    obtain ⟨p, mp, j, hj, e⟩ := (ones_spans ds 0 n).mp m
    exact ⟨p, mp, j, hj, by omega⟩
  · rintro ⟨p, mp, j, hj, e⟩
    exact ⟨p.1 + 2 * j, (ones_spans ds 0 _).mpr ⟨p, mp, j, hj, rfl⟩, by omega⟩
theorem key {a : Int} {p : Nat × Nat} {es : List Nat} (h1 : p.1 % 2 = 0) (h2 : 1 ≤ p.2) : (∀ j : Nat, j < p.2 → (p.1 : Int) + 2 * (j : Int) + a ∈ SI es) ↔ ∃ q ∈ spans 0 es, inB a p q = true := by
  constructor
  · intro h
    obtain ⟨q, mq, i0, hi0, e0⟩ := SI_mem.mp (h 0 (by omega))
    refine ⟨q, mq, (inB_iff h1 h2 (spans_ge es 0 q mq).2.1).mpr fun j => ?_⟩
    induction j with
    | zero => exact fun _ => ⟨i0, hi0, e0⟩
    | succ j ih =>
      intro hj
      obtain ⟨i, hi, e⟩ := ih (by omega)
      obtain ⟨q2, mq2, i2, hi2, e2⟩ := SI_mem.mp (h (j + 1) hj)
      rcases tri (spans_up es 0) mq mq2 with z | z | z
      · subst z
        exact ⟨i2, hi2, e2⟩
      · omega
      · omega
  · rintro ⟨q, mq, hq⟩ j hj
    obtain ⟨i, hi, e⟩ := (inB_iff h1 h2 (spans_ge es 0 q mq).2.1).mp hq j hj
    exact SI_mem.mpr ⟨q, mq, i, hi, e⟩
def home (a : Int) (qs : List (Nat × Nat)) (p : Nat × Nat) : Option Nat := qs.findIdx? (inB a p)
/-- the block of each block -/
def FitL (a : Int) (ds es : List Nat) : List Nat := if (spans 0 ds).all (fun p => (home a (spans 0 es) p).isSome) then (spans 0 ds).map (fun p => (home a (spans 0 es) p).getD 0) else []
def insB (ds es : List Nat) (a : Int) : Bool := (SI ds).all fun k => decide (k + a ∈ SI es)
theorem ins_iff {ds es : List Nat} {a : Int} : insB ds es a = true ↔ ∀ k ∈ SI ds, k + a ∈ SI es := by
  unfold insB
  rw [List.all_eq_true]
  exact ⟨fun h k m => of_decide_eq_true (h k m), fun h k m => decide_eq_true (h k m)⟩
theorem home_some {a : Int} {p : Nat × Nat} {es : List Nat} : (home a (spans 0 es) p).isSome = true ↔ ∃ q ∈ spans 0 es, inB a p q = true := by
  unfold home
  rw [List.findIdx?_isSome, List.any_eq_true]
theorem fit_all {ds es : List Nat} {a : Int} (N : Num ds) : (spans 0 ds).all (fun p => (home a (spans 0 es) p).isSome) = insB ds es a := by
  rw [Bool.eq_iff_iff, ins_iff, List.all_eq_true]
  constructor
  · intro h k mk
    obtain ⟨p, mp, j, hj, rfl⟩ := SI_mem.mp mk
    have sp := spans_ge ds 0 p mp
    exact (key sp.2.1 (N.dig _ sp.2.2).1).mpr (home_some.mp (h p mp)) j hj
  · intro h p mp
    have sp := spans_ge ds 0 p mp
    exact home_some.mpr ((key sp.2.1 (N.dig _ sp.2.2).1).mp fun j hj => h _ (SI_mem.mpr ⟨p, mp, j, hj, rfl⟩))
theorem fit_ne {ds es : List Nat} {a : Int} (N : Num ds) : (decide (FitL a ds es ≠ [])) = insB ds es a := by
  unfold FitL
  rw [fit_all N]
  cases insB ds es a with
  | false => simp
  | true =>
    simp only [if_true]
    refine decide_eq_true fun e => ?_
    have := congrArg List.length e
    rw [List.length_map, spans_len, List.length_nil] at this
    have := N.pos
    omega
theorem zero_in {ds : List Nat} (N : Num ds) : (0 : Int) ∈ SI ds := by
  obtain ⟨d, r, e⟩ : ∃ d r, ds = d :: r := by
    have := N.pos
    cases ds with
    | nil => simp at this
    | cons d r => exact ⟨d, r, rfl⟩
  subst e
  exact SI_mem.mpr ⟨(0, d), by rw [spans]; exact List.mem_cons_self, 0, (N.dig d List.mem_cons_self).1, rfl⟩
theorem SI_lt {ds : List Nat} {k : Int} (h : k ∈ SI ds) : 0 ≤ k ∧ k < (rowL ds).length ∧ k % 2 = 0 := by
  obtain ⟨n, m, rfl⟩ := List.mem_map.mp h
  obtain ⟨j, e, g⟩ := (ones_mem _ _ _).mp m
  have := (List.getElem?_eq_some_iff.mp g).1
  obtain ⟨p, mp, i, hi, e2⟩ := (ones_spans ds 0 n).mp m
  have := (spans_ge ds 0 p mp).2.1
  exact ⟨by omega, by omega, by omega⟩
theorem ins_at {ds es : List Nat} {a : Int} (N : Num ds) (h : insB ds es a = true) : 0 ≤ a ∧ a < (rowL es).length ∧ a % 2 = 0 := by
  have := ins_iff.mp h 0 (zero_in N)
  rw [Int.zero_add] at this
  exact SI_lt this
/-- where ds fits into es -/
def DI (ds es : List Nat) : List Int := ((List.range (rowL es).length).map fun (i : Nat) => (i : Int)).filter (insB ds es)
theorem range_up (n : Nat) (c : Int) (hc : 0 < c) : ((List.range n).map fun (i : Nat) => (i : Int) * c).Pairwise (· < ·) := by
  rw [List.pairwise_map]
  exact List.pairwise_lt_range.imp fun {x y} h => Int.mul_lt_mul_of_pos_right (by omega) hc
theorem range_up1 (n : Nat) : ((List.range n).map fun (i : Nat) => (i : Int)).Pairwise (· < ·) := by
  rw [List.pairwise_map]
  exact List.pairwise_lt_range.imp fun {x y} h => by omega
theorem DI_up (ds es : List Nat) : (DI ds es).Pairwise (· < ·) := (range_up1 _).filter _
theorem DI_mem {ds es : List Nat} {a : Int} (N : Num ds) : a ∈ DI ds es ↔ insB ds es a = true := by
  unfold DI
  rw [List.mem_filter, List.mem_map]
  constructor
  · exact fun h => h.2
  · intro h
    obtain ⟨h0, h1, _⟩ := ins_at N h
    exact ⟨⟨a.toNat, List.mem_range.mpr (by omega), by omega⟩, h⟩
theorem DI_trans {ds es fs : List Nat} {a c : Int} (N : Num ds) (M : Num es) (h : a ∈ DI ds es) (g : c ∈ DI es fs) : a + c ∈ DI ds fs := by
  rw [DI_mem N, ins_iff] at *
  rw [DI_mem M, ins_iff] at g
  intro k mk
  have := g _ (h k mk)
  rwa [Int.add_assoc] at this
theorem SI_up (ds : List Nat) : (SI ds).Pairwise (· < ·) := by
  unfold SI
  rw [List.pairwise_map]
  have : ∀ (xs : List Int) (o : Nat), (ones o xs).Pairwise (· < ·) ∧ ∀ k ∈ ones o xs, o ≤ k := by
    intro xs
    induction xs with
    | nil => exact fun o => ⟨.nil, fun k m => by cases m⟩
    | cons x xs ih =>
      intro o
      obtain ⟨a, b⟩ := ih (o + 1)
      unfold ones
      split
      · exact ⟨.cons (fun k m => by have := b k m; omega) a, fun k m => by
          rcases List.mem_cons.mp m with rfl | m
          · exact Nat.le_refl _
          · have := b k m; omega⟩
      · exact ⟨a, fun k m => by have := b k m; omega⟩
  exact (this (rowL ds) 0).1.imp fun {x y} h => by omega
theorem DI_self {ds : List Nat} (N : Num ds) : DI ds ds = [0] := by
  have h0 : insB ds ds 0 = true := ins_iff.mpr fun k m => by rw [Int.add_zero]; exact m
  have only : ∀ a, insB ds ds a = true → a = 0 := fun a h => by
    have h1 := (ins_at N h).1
    by_cases c : a = 0
    · exact c
    · -- the last stroke moves beyond itself
      have no : ∀ (l : List Int), l ≠ [] → l.Pairwise (· < ·) → ∃ m ∈ l, ∀ k ∈ l, k ≤ m := by
        intro l
        induction l with
        | nil => exact fun h => absurd rfl h
        | cons x l ih =>
          intro _ hp
          rw [List.pairwise_cons] at hp
          by_cases e : l = []
          · subst e
            exact ⟨x, List.mem_cons_self, fun k m => by rw [List.mem_singleton.mp m]; exact Int.le_refl _⟩
          · obtain ⟨m, mm, hm⟩ := ih e hp.2
            refine ⟨m, List.mem_cons_of_mem _ mm, fun k mk => ?_⟩
            rcases List.mem_cons.mp mk with rfl | mk
            · have := hp.1 m mm; omega
            · exact hm k mk
      obtain ⟨m, mm, hm⟩ := no (SI ds) (fun e => by have := zero_in N; rw [e] at this; cases this) (SI_up ds)
      have := hm _ (ins_iff.mp h m mm)
      omega
  have e : ∀ a, a ∈ DI ds ds ↔ a ∈ [(0 : Int)] := fun a => by
    rw [DI_mem N, List.mem_singleton]
    exact ⟨only a, fun h => by rw [h]; exact h0⟩
  have up := DI_up ds ds
  cases q : DI ds ds with
  | nil => have := (e 0).mpr (by simp); rw [q] at this; cases this
  | cons x l =>
    rw [q] at up e
    rw [List.pairwise_cons] at up
    have hx : x = 0 := by simpa using (e x).mp List.mem_cons_self
    subst hx
    cases l with
    | nil => rfl
    | cons y l =>
      have hy : y = 0 := by simpa using (e y).mp (by simp)
      have := up.1 y List.mem_cons_self
      omega
end Wm

/-! sorted(set of ints), any number of members. -/
namespace Sa
open PySem PySem.Spec PyProof.Rows L2
section
variable {P : Program} {w : World} {A : Around} {E : Value → Shared → Prop} {s : Shared} {a : Addr}
theorem sorted_setAny {S : Int → Bool} {n : Nat} {Q : Value → Shared → Prop} (R : SetR w s.heap a S n) (hh : A.handled = none) (hn4 : n ≤ 4000)
    (hQ : ∀ s' p (out : Array Value) (c : Nat) (ns : List Int), (∀ b o, s.heap.get? b = some o → s'.heap.get? b = some o) → s'.gens = s.gens → s'.os = s.os → s.heap.objs.size ≤ p →
      s'.heap.get? p = some (seqObj "list" out c) → IntsAre out.toList ns → ns.Pairwise (· < ·) → (∀ k, k ∈ ns ↔ S k = true) → ns.length = n → Q (.ref p) s') :
    wpAny (model P w) A (call (.builtin "sorted") [.ref a]) Q E s := by
  obtain ⟨o, es, ep, t, ho, hex, hd, g, nd, hm, hb, hf, hn, hr, hl⟩ := R
  refine Calls.call_function_entry kind_sorted plain_sorted entry_sorted (args_sorted1 _) ?_
  unfold Builtin.«sorted»
  refine wpAny_bind (m := checkCount "sorted" 1 1 _) (wpAny_pure ?_)
  refine wpAny_bind (collect_set (A := A.in1) hh ⟨o, ho, hex.1, hd⟩ hf hb hr hl fun s1 vs k1 hz g1 o1 pm => ?_)
  have hvl : vs.length = n := by rw [pm.length_eq, List.length_map, Array.length_toList]; exact hn
  have hI : IntsAre vs (vs.map Builtin.Re.reRawOf) := ints_of vs fun v hv => by
    obtain ⟨e, he, q⟩ := List.mem_map.mp (pm.mem_iff.mp hv)
    obtain ⟨k, tk, h1, _⟩ := g e he
    exact ⟨k, tk, by rw [← q]; exact h1⟩
  have pk : (vs.map Builtin.Re.reRawOf).Perm (es.toList.map keyOf) := by
    have q := pm.map Builtin.Re.reRawOf
    rw [List.map_map] at q
    exact q
  refine wpAny_bind (wpAny_newList ?_ (by rw [hvl, sizeLine_eq]; omega))
  have hoL : (s1.heap.push (seqObj "list" vs.toArray 0)).get? s1.heap.objs.size = some (seqObj "list" vs.toArray 0) := Heap.get?_push_size _ rfl
  refine wpAny_bind (wpAny_holding (wpAny_call_entry slot_list_sort ⟨_, hoL, rfl⟩ entry_list_sort (list_sort_treeAny hoL hI (by rw [hvl, sizeLine_eq]; omega) fun out ns' a1 a2 a3 => ⟨_, rfl, ?_⟩) (args_list_sort _)))
  obtain ⟨c, hc⟩ := sortedHeap_at (vs := vs) (out := out) hoL
  have pn : ns'.Perm (es.toList.map keyOf) := a2.trans pk
  refine wpAny_pure ⟨_, rfl, hQ _ s1.heap.objs.size out c ns' (fun b u e => ?_) g1 o1 hz hc a1 (lt_of_le_nodup ns' a3 (pn.nodup_iff.mpr nd)) (fun k => by rw [pn.mem_iff, ← hm k]) ?_⟩
  · have q := k1 b u e
    have hlt := Heap.lt_size q
    show (sortedHeap (s1.heap.push (seqObj "list" vs.toArray 0)) s1.heap.objs.size vs out).get? b = some u
    rw [sortedHeap_old (Nat.ne_of_lt hlt) (by rw [size_push']; exact Nat.lt_succ_of_lt hlt)]
    exact Heap.get?_push_of_some _ q
  · rw [pn.length_eq, List.length_map, Array.length_toList]; exact hn
end
section
variable {X : Cx}
def rSortedSetA (w : World) : List V → Hp → VK → Prop := fun vs H Q => ∃ (a : Addr) (S : Int → Bool) (n : Nat), vs = [V.ref a] ∧ H a = some (SetO w a S n) ∧ n ≤ 4000 ∧
  ∀ (ns : List Int) (p : Addr), ns.Pairwise (· < ·) → (∀ k : Int, k ∈ ns ↔ S k = true) → ns.length = n → H p = none → Q (.ref p) (upd H p (.lst (ns.map V.int)))
theorem cr_sortedSetA (hc : X.calm = true) : CallR X (.builtin "sorted") (rSortedSetA X.w) := by
  intro pins s σ H vs us Q I r h
  obtain ⟨a, S, n, rfl, ha, h64, q⟩ := h
  have R := setO_get I ha
  rw [Vals.ref1 r]
  refine sorted_setAny R (I.ok.hd hc) h64 fun s' p out c ns k g o hp hg hi hs hm hl => ?_
  have hlen : (ns.map V.int).length ≤ sizeLine := by rw [List.length_map, hl, sizeLine_eq]; omega
  have hn : H p = none := I.hok.fresh hp
  have J : Inv X pins σ (upd H p (.lst (ns.map V.int))) { s with heap := s'.heap, gens := s'.gens, drawn := s'.drawn, toks := s'.toks } :=
    I.call (ch := []) (Un.laid k hp hn) (I.hok.laid k hp ⟨hlen, out.toList, c, vals_of_ints hi, hg⟩) (by rw [g]; exact I.bare) (fun _ z => nomatch z)
  have e : s' = { s with heap := s'.heap, gens := s'.gens, drawn := s'.drawn, toks := s'.toks } := by
    cases s'
    cases s
    cases o
    rfl
  rw [e]
  exact ⟨.ref p, _, J, rfl, q ns p hs hm hl hn⟩
end
end Sa

/-! x op y by the own def of x's class, y of a built-in type; a call that may raise in a try whose suite asks only its own name. -/
namespace Po
open PySem PySem.Spec PyProof.Rows L2
theorem passL {X : Cx} {W : WX} (n : Nat) (hn : X.N.length = n) (tk : Takes X W) : Passes (L2.CX X.prog X.w) X (fun cls d H => ∀ σ : L2.St, σ.length = n → W cls d σ H) :=
  fun _ σ _ _ e s' I c => tk e s' (XE.of_call I (fun _ _ _ h => h σ (I.len.trans hn)) c)
/-- what is asked of the type T on the right -/
structure RT (K : PySem.W.Frag) (op : Operator) (C : Addr) (T : String) : Prop where
  ex : ∃ fo ro : Option Value, PySem.W.findIn K (.type T) (PySem.dunder op.info.2) = some fo ∧ PySem.W.findIn K (.type T) (dunderR op.info.2) = some ro
  sub : PySem.W.subIn K (.type T) (.ref C) = some false
/-- and of the class on the left -/
structure LT (K : PySem.W.Frag) (op : Operator) (C : Addr) : Prop where
  rc : ∃ rc : Option Value, PySem.W.findIn K (.ref C) (dunderR op.info.2) = some rc ∧ (rc = none ∨ ∃ g : Addr, rc = some (.ref g))
  sf : PySem.W.selfFirst K C = true
section
open PySem.W
variable {prog : Program} {w : World} {A : Around} {E : Value → Shared → Prop} {s : Shared} {K : Frag} {x C L f : Addr} {h₀ : Heap} {m : Str → Option Value} {ox : Obj} {od : Option Obj} {T : String}
theorem bin_at {op : Operator} {b : Value} {Q : Value → Shared → Prop} (F : Fr h₀ L s.heap m) (kin : K.In h₀) (I : InstAt s.heap x ox C od) (hb : Looks (model prog w) s.heap (typeOf b) (.type T)) (lt : LT K op C)
    (own : findIn K (.ref C) (PySem.dunder op.info.2) = some (some (.ref f))) (fn : isFn K (.ref f) = true) (rt : RT K op C T)
    (go : wpAny (model prog w) A (call (.ref f) [.ref x, b]) (PySem.W.CmpBack Q) E s) : wpAny (model prog w) A (binaryOp op (.ref x) b) Q E s := by
  have kn := kin.keeps F.keep
  obtain ⟨⟨fo, ro, t1, t2⟩, apart⟩ := rt
  obtain ⟨⟨rc, back, bk⟩, first⟩ := lt
  obtain ⟨cd, rest, ecd, emro⟩ := ksp_first first
  rcases hop : op.info with ⟨sg, nm⟩
  rw [hop] at own back t1 t2
  dsimp only at own back t1 t2
  have tried := ksp_try kn I own fn go
  obtain ⟨hp, gn, dr, tks, oss⟩ := s
  have k1 : Looks (model prog w) hp (typeOf (Value.ref x)) (Value.ref C) := I.type
  have k2 : Looks (model prog w) hp (typeOf b) (Value.type T) := hb
  have k3 : Looks (model prog w) hp (fillsNumberSlot (Value.ref C) nm) true := fills_K kn ecd emro own
  have k4 := ksp_fillsT (M := model prog w) kn t1 t2
  have k5 : Looks (model prog w) hp (isSubtype (Value.type T) (Value.ref C)) false := looks_subIn kn apart
  have k6 : Looks (model prog w) hp (numberSlotInPython (Value.ref C) nm) true := ksp_inPy kn own back bk
  have k7 : Looks (model prog w) hp (numberSlotInPython (Value.type T) nm) false := Looks.of_pure rfl
  have k8 : Looks (model prog w) hp (typeLookup (Value.type T) (dunderR nm)) ro := looks_findIn kn t2
  revert k4
  generalize ((fo.isSome && !isSeqSlot fo) || (ro.isSome && !isSeqSlot ro)) = rgt
  intro k4
  have apart2 : (Value.ref C == Value.type T) = false := by
    cases q : (Value.ref C == Value.type T) with
    | false => rfl
    | true => cases beq_iff_eq.mp q
  simp only [binaryOp, hop]
  apply wpAny_holding
  apply wpAny_bind
  unfold binaryOp1
  refine wpAny_bind (k1.at ?_)
  refine wpAny_bind (k2.at ?_)
  refine wpAny_bind (k3.at ?_)
  simp only [apart2, Bool.false_eq_true, if_false]
  cases rgt <;>
    (ksp_lk
     refine wpAny_mono tried (fun r s' z => ?_) fun _ _ e => e
     obtain ⟨v, rfl, hq⟩ := z
     ksp_lk
     exact hq)
end
section
variable {X : Cx} {CX : CXT} {C g : Addr} {n : Nat} {sp : Sp} {E : XK}
/-- x op y by the own def of x's class at C; y of a built-in type -/
def rBinT (K : PySem.W.Frag) (op : Operator) (C : Addr) (sp : Sp) (E : XK) : R2 := fun x y H Q => ∃ a dx fs T, x = .ref a ∧ H a = some (.ins C dx fs) ∧ TyX K H y (.type T) ∧ RT K op C T ∧ sp [x, y] H Q E
theorem op_binI {op : Operator} (lt : LT X.K op C) (hs : PySem.W.findIn X.K (.ref C) (PySem.dunder op.info.2) = some (some (.ref g))) (hf : PySem.W.isFn X.K (.ref g) = true) (F : FnR X.prog X.w X.K X.mg X.base CX n g sp)
    (hr : Room n X.A) (hx : Passes CX X E) : OpR X (binaryOp op) (rBinT X.K op C sp E) := by
  intro pins s σ H x y v u Q I rx ry h
  obtain ⟨a, dx, fs, T, rfl, ha, ty, rt, q⟩ := h
  cases (show v = Value.ref a from rx)
  obtain ⟨ox, od, J⟩ := Ow.ins_at I ha
  obtain ⟨P, k, hp, _⟩ := kit_of I ry ty
  obtain ⟨m, hF⟩ := I.fr
  refine bin_at hF I.ok.mod.kin J (k.ty _ _ I.kIn hp) lt hs hf rt ?_
  refine wpAny_mono (wpAny_call (run_fnR (us := [.ref a, u]) (vs := [.ref a, y]) F hr hx I (.cons rfl (.cons ry .nil)) q)) (fun w s' z => ?_) fun _ _ x => x
  obtain ⟨z', H', I', rz, qz⟩ := z
  exact SlX.cmpback rz ⟨z', H', I', rz, qz⟩
end
end Po

/-! [t, t, t] != [t, t, t], whatever the text. -/
namespace Ne5
open PySem PySem.Spec PyProof.Rows L2
def rNe5 (K : PySem.W.Frag) : R2 := fun x y H Q => ∃ p q t, x = .ref p ∧ y = .ref q ∧ SqL K H p [.str t, .str t, .str t] ∧ SqL K H q [.str t, .str t, .str t] ∧ Q (.bl false) H
theorem op_ne5 {X : Cx} (hu : X.A.units + 64 < cLine) : OpR X (compareOp .NotEq) (rNe5 X.K) := by
  intro pins s σ H x y v u Q I rx ry h
  obtain ⟨p, q, t, rfl, rfl, hp, hq, h⟩ := h
  cases rx
  cases ry
  obtain ⟨its, r1, p1, _⟩ := I.list hp
  obtain ⟨its2, r2, p2, _⟩ := I.list hq
  rcases r1 with _ | ⟨a1, r1⟩
  rcases r1 with _ | ⟨a2, r1⟩
  rcases r1 with _ | ⟨a3, r1⟩
  cases r1
  rcases r2 with _ | ⟨b1, r2⟩
  rcases r2 with _ | ⟨b2, r2⟩
  rcases r2 with _ | ⟨b3, r2⟩
  cases r2
  obtain ⟨k1, rfl⟩ := a1
  obtain ⟨k2, rfl⟩ := a2
  obtain ⟨k3, rfl⟩ := a3
  obtain ⟨m1, rfl⟩ := b1
  obtain ⟨m2, rfl⟩ := b2
  obtain ⟨m3, rfl⟩ := b3
  have e := PySem.SeqAt.RcNeAt.lists (A := X.A) (s := s) (e := fun _ => true) p1.isList p2.isList rfl (by omega) (fun j h1 h2 => by
    have c : j = 0 ∨ j = 1 ∨ j = 2 := by
      have : j < 3 := h1
      omega
    rcases c with rfl | rfl | rfl
    · have := PySem.SeqAt.EqAt.str_str (A := X.A.in1) (s := s) t k1 t m1
      simpa using this
    · have := PySem.SeqAt.EqAt.str_str (A := X.A.in1) (s := s) t k2 t m2
      simpa using this
    · have := PySem.SeqAt.EqAt.str_str (A := X.A.in1) (s := s) t k3 t m3
      simpa using this)
  exact e X.prog X.w X.xe _ ⟨.bl false, H, I, rfl, h⟩
end Ne5

/-! A call by keywords that may raise, its exception's part told by the state at the call. -/
namespace Kw
open PySem PySem.Spec PyProof.Rows L2
section
variable {X : Cx} {CX : CXT} {k n : Nat} {f : Addr} {fd : FuncData} {ps ks : List Str} {sp : Sp} {E : L2.St → XK} {x : Str} {e : Expr} {es : List Expr} {kws : List Keyword} {t tk : TA} {p pos : Pos} {g : List Value → List Value → List Value} {gV : List V → List V → List V}
theorem run_fnNS {pins : List (Addr × Obj)} {σ : L2.St} {H : Hp} {s : Shared} {Q : VK} {us ws : List Value} {vs zs : List V} (F : FnOk X.prog X.w X.K X.mg X.base CX k f fd ps sp) (hr : Room k X.A) (hb : KBn X.K fd ps n ks g gV) (hx : PassesAt CX X σ (E σ))
    (I : Inv X pins σ H s) (r : Vals vs us) (rz : Vals zs ws) (l1 : vs.length = n) (l2 : zs.length = ks.length) (h : sp (gV vs zs) H Q (E σ)) : wpAny (model X.prog X.w) X.A (call (.ref f) us (ks.zip ws)) (EP X pins σ Q) X.xe s := by
  have r2 := hb.rel r rz
  refine wpAny_call (codeAny_mono (F.run X.A X.stack s H ⟨us, ks.zip ws⟩ (g us ws) (gV vs zs) Q (E σ) hr I.env0 (hb.to s us ws I.kIn (r.length.symm.trans l1) (rz.length.symm.trans l2)) r2 h) fun r s' hq => ?_)
  cases r with
  | error e => exact hx pins H s e s' I hq
  | ok fl =>
    cases fl with
    | ret u => exact I.after hq
    | next => exact False.elim hq
    | brk => exact False.elim hq
    | cont => exact False.elim hq
def tCallNS (n m : Nat) (sp : Sp) (gV : List V → List V → List V) (E : L2.St → XK) (t tk : TA) : TE := fun σ H Q => t σ H fun vs H1 => tk σ H1 fun zs H2 => vs.length = n ∧ zs.length = m ∧ sp (gV vs zs) H2 Q (E σ)
theorem pe_callNS (F : FnOk X.prog X.w X.K X.mg X.base CX k f fd ps sp) (hr : Room k X.A) (hg : Gl X x) (hm : X.mg x = some (.ref f)) (hk : PySem.W.keepIn X.K (.ref f) = true) (hb : KBn X.K fd ps n ks g gV) (hx : ∀ σ, PassesAt CX X σ (E σ))
    (ha : PA X (e :: es) t) (hkw : PK X kws tk) (hall : (backToKw pos (keywordEach kws X.env)).all (·.1.isSome) = true := by rfl) (hks : (backToKw pos (keywordEach kws X.env)).filterMap (·.1) = ks := by rfl)
    (hdb : (x == ("__debug__" : Str)) = false := by decide) (he : starEach (e :: es) X.env = (false, eval e X.env) :: starEach es X.env := by rfl)
    (hpl : ((backTo pos (starEach (e :: es) X.env)).any (·.1) || (backToKw pos (keywordEach kws X.env)).any (·.1.isNone)) = false := by rfl) :
    PE X (.Call (.Name x p) (e :: es) kws pos) (tCallNS n ks.length sp gV E t tk) := by
  refine ⟨fun pins s σ H Q I h => ?_⟩
  refine wpAny_Call_Name_kw (ld_glob I hg hm ?_ hdb)
  refine PySem.W.callWith_KW (h₀ := X.base) I.ok.mod.kin hk hall (thn (ha.run pos pins s σ H _ I h) fun us s1 ⟨vs, H1, I1, r, q⟩ => ?_) hpl he
  refine thn (hkw.run pos pins s1 σ H1 _ I1 q) fun ws s2 ⟨zs, H2, I2, rz, l1, l2, q2⟩ => ⟨I2.kIn, ?_⟩
  rw [hks]
  exact run_fnNS F hr hb (hx σ) I2 r rz l1 l2 q2
end
end Kw

/-! iter(text) as a value; list(x), x with an __iter__ that gives such a one, and an own __len__; yield from a list. -/
namespace Si2
open PySem PySem.Spec PyProof.Rows L2 ItX
abbrev AIt (h : Heap) (it : Addr) (x : Str) (i : Nat) : Prop := ∃ t, h.IsStrIter it "str_ascii_iterator" x t i
def sgs (x : Str) : List V := x.cps.toList.map fun c => V.str ⟨#[c]⟩
/-- an iterator of the text x, not begun -/
def SiO (x : Str) (it : Addr) : HO := .ext fun h => AIt h it x 0
theorem si_at {h h' : Heap} {it : Addr} {x : Str} {i : Nat} (y : AIt h it x i) (k : ∀ o, h.get? it = some o → h'.get? it = some o) : AIt h' it x i := by
  obtain ⟨t, o, e, r⟩ := y
  exact ⟨t, o, k o e, r⟩
theorem si_ok {P : Program} {w : World} {H : Hp} {h : Heap} {it : Addr} {x : Str} (y : AIt h it x 0) : ObjOk P w H h it (SiO x it) :=
  ⟨y, by obtain ⟨_, o, e, _⟩ := y; exact ⟨o, e⟩, fun _ _ p k => si_at p k⟩
theorem ai_ty {s : Shared} {it : Addr} {x : Str} {i : Nat} (y : AIt s.heap it x i) : s.TypeIs (.ref it) "str_ascii_iterator" := let ⟨_, o, e, c, _⟩ := y; ⟨o, e, c⟩
def rIterS : List V → Hp → VK → Prop := fun xs H Q => ∃ x : Str, xs = [.str x] ∧ x.cps.all (· < 128) = true ∧ ∀ it, H it = none → (∀ b o, H b = some o → b < it) → Q (.ref it) (upd H it (SiO x it))
section
variable {X : Cx}
theorem call_iterS : CallR X (.builtin "iter") rIterS := by
  intro pins s σ H xs us Q I r h
  obtain ⟨x, rfl, ha, q⟩ := h
  obtain ⟨u, rfl, ru⟩ := r.one
  obtain ⟨t, rfl⟩ := ru
  refine Calls.call_function_entry (by decide +kernel) (by decide +kernel) PySem.W.kdk_entry_iter (PySem.W.kdk_args_iter _) ?_
  unfold Builtin.«iter»
  refine wpAny_bind (m := someArgs "iter" 1 2 _) (wpAny_of_eq (a := [Value.str x t]) (by first | rfl | kernel_rfl!) ?_)
  show wpAny _ _ (pyIter (.str x t) >>= _) _ _ _
  refine wpAny_bind (wpAny_pyIter_ascii ha (wpAny_pure ⟨_, rfl, ?_⟩))
  refine ⟨.ref s.heap.objs.size, _, I.laid (t' := s.toks) (fun b u e => Heap.get?_push_of_some _ e) (Nat.le_refl _) (si_ok ⟨t, _, Heap.get?_push_size _ rfl, rfl, rfl⟩), rfl, q _ (I.hok.fresh (Nat.le_refl _)) fun b o e => ?_⟩
  exact (I.hok b o e).lt
end
section
variable {X : Cx} {pins : List (Addr × Obj)} {σ : L2.St} {q it : Addr} {x : Str} {A1 : Around} {Rs : Result → Shared → Prop}
/-- the list at q takes what the iterator gives -/
theorem fill (hh : A1.in1.handled = none) (few : (sgs x).length ≤ 1000) : ∀ (k i : Nat) (H : Hp) (s : Shared), (sgs x).length - i = k → i ≤ (sgs x).length → Inv X pins σ H s → H q = some (.lst ((sgs x).take i)) → FpOk X pins H it → AIt s.heap it x i →
    (∀ s', Inv X pins σ (upd H q (.lst (sgs x))) s' → Rs (.ok (.ret .none)) s') → codeAny (model X.prog X.w) A1 (.builtin "list.extend.loop" ⟨[.ref q, .ref it, .none], []⟩) Rs s := by
  intro k
  have sz := sizeLine_eq
  induction k with
  | zero =>
    intro i H s hk hi I hq fp st hd
    have e : i = (sgs x).length := by omega
    subst e
    obtain ⟨t, st⟩ := st
    obtain ⟨f0, f1, f2, f3, f4, f5⟩ := fp
    refine codeAny_builtin PySem.F.entry_extend_loop ?_
    rw [Around.under_plainId PySem.F.plain_extend_loop _]
    show wpAny _ A1.in1 (pyNext (.ref it) >>= _) _ _ s
    refine wpAny_bind (wpAny_pyNext_ascii_end hh st (Array.getElem?_eq_none (by rw [← Array.length_toList]; show x.cps.toList.length ≤ (sgs x).length; simp [sgs])) fun h' ex => ?_)
    have I1 := I.turned (t' := s.toks) (h' := h') (fun b o nb e => ex b o nb e) f0 f1 f3 f4 f5
    rw [List.take_length] at hq
    have e : upd H q (.lst (sgs x)) = H := by
      funext b
      by_cases c : b = q
      · rw [c, upd_same, hq]
      · rw [upd_ne c]
    exact wpAny_pure (hd _ (by rw [e]; exact I1))
  | succ k ih =>
    intro i H s hk hi I hq fp st hd
    have lt : i < (sgs x).length := by omega
    obtain ⟨t, st⟩ := st
    have lt2 : i < x.cps.size := by rw [← Array.length_toList]; simpa [sgs] using lt
    obtain ⟨f0, f1, f2, f3, f4, f5⟩ := id fp
    refine codeAny_builtin PySem.F.entry_extend_loop ?_
    rw [Around.under_plainId PySem.F.plain_extend_loop _]
    show wpAny _ A1.in1 (pyNext (.ref it) >>= _) _ _ s
    refine wpAny_bind (wpAny_pyNext_ascii_item st (c := x.cps[i]) (Array.getElem?_eq_getElem lt2) fun h' st' sb => ?_)
    have I1 := I.turned (t' := s.toks + 1) (h' := h') (fun b o nb e => (sb.2 b nb).trans e) f0 f1 f3 f4 f5
    obtain ⟨z, ls, kk, r2, hl, e⟩ := I1.lstM hq
    have ll := r2.length
    rw [List.length_take] at ll
    show wpAny _ A1.in1 (updateSeq q (·.push (.str ⟨#[x.cps[i]]⟩ s.toks)) >>= _) _ _ _
    have nq : it ≠ q := fun c => by rw [← c, f0] at hq; cases hq
    refine wpAny_bind (wpAny_updateSeq e rfl (wpAny_pure ⟨plainId_quiet PySem.F.plain_extend_loop _, ?_⟩) (by rw [List.size_toArray]; omega) (by show (ls.toArray.push (.str ⟨#[x.cps[i]]⟩ s.toks)).size ≤ sizeLine + 1; rw [Array.size_push, List.size_toArray]; omega))
    have I2 := I1.lset (f := (·.push (.str ⟨#[x.cps[i]]⟩ s.toks))) (its' := ls ++ [.str ⟨#[x.cps[i]]⟩ s.toks]) (t' := s.toks + 1) hq e (by simp) (ys := (sgs x).take i ++ [V.str ⟨#[x.cps[i]]⟩]) (r2.append (.cons ⟨_, rfl⟩ .nil)) (by rw [List.length_append, List.length_singleton, List.length_take]; omega)
    have tk : (sgs x).take i ++ [V.str ⟨#[x.cps[i]]⟩] = (sgs x).take (i + 1) := by rw [List.take_add_one, List.getElem?_eq_getElem lt]; simp [sgs]
    rw [tk] at I2
    refine ih (i + 1) _ _ (by omega) lt I2 upd_same ⟨by rw [upd_ne nq]; exact f0, f1, f2, f3, f4, f5⟩ (si_at ⟨t, st'⟩ fun o e => (Heap.get?_update_other _ _ (Ne.symm nq)).trans e) fun s' I' => hd s' (by rw [upd_upd] at I'; exact I')
end
section
variable {X : Cx} {C fi fl : Addr} {spI spL : Sp} {EI EL : XK} {n : Nat}
/-- list(x): its __iter__ gives an iterator of a tuple, its __len__ a number -/
def rListItS (K : PySem.W.Frag) (C : Addr) (spI spL : Sp) (EI EL : XK) : List V → Hp → VK → Prop := fun xs H Q => ∃ a dx fs, xs = [.ref a] ∧ H a = some (.ins C dx fs) ∧ ∀ q, H q = none → spI [.ref a] (upd H q (.lst []))
  (fun v H1 => ∃ it x, v = .ref it ∧ H1 it = some (SiO x it) ∧ q < it ∧ (sgs x).length ≤ 1000 ∧ H1 q = some (.lst []) ∧ H1 a = some (.ins C dx fs) ∧
    spL [.ref a] H1 (fun z H2 => ∃ i : Int, z = .int i ∧ 0 ≤ i ∧ i < 1000 ∧ H2 = H1 ∧ Q (.ref q) (upd (dropH H1 it) q (.lst (sgs x)))) EL) EI
theorem call_listItS (hs : PySem.W.findIn X.K (.ref C) "__iter__" = some (some (.ref fi))) (hf : PySem.W.isFn X.K (.ref fi) = true) (hl : PySem.W.findIn X.K (.ref C) "__len__" = some (some (.ref fl))) (hlf : PySem.W.isFn X.K (.ref fl) = true)
    (FI : FnR X.prog X.w X.K X.mg X.base CX0 n fi spI) (FL : FnR X.prog X.w X.K X.mg X.base CX0 n fl spL) (hc : X.calm = true) (hr : Room (n + 4) X.A) : CallR X (.type "list") (rListItS X.K C spI spL EI EL) := by
  intro pins s σ H xs us Q I rv h
  obtain ⟨a, dx, fs, rfl, ha, hq⟩ := h
  obtain ⟨u, rfl, ru⟩ := rv.one
  cases (show u = Value.ref a from ru)
  have sb : Sub X (n + 1) X.A.in1.in1.in1 := Sub.in1 (Sub.in1 (Sub.in1 ⟨hr, rfl⟩))
  refine callType_codes (Q₁ := fun obj s₁ => obj = .ref s.heap.objs.size ∧ s₁ = { s with heap := s.heap.push { cls := .type "list", data := .seq #[] } })
    PySem.F.called_list (PySem.F.typeCall_list_1 _) PySem.F.entry_list_init (code_list_new _ ⟨rfl, rfl⟩) fun obj s₁ h₁ => ?_
  obtain ⟨rfl, rfl⟩ := h₁
  have hS : (s.heap.push { cls := .type "list", data := .seq #[] }).get? s.heap.objs.size = some { cls := .type "list", data := .seq #[] } := Heap.get?_push_size _ rfl
  refine ⟨⟨_, hS, rfl⟩, PySem.F.args_list_init_2 _ _, ?_⟩
  have fr : H s.heap.objs.size = none := I.hok.fresh (Nat.le_refl _)
  have hsp := hq _ fr
  have young : X.s_0.heap.objs.size ≤ s.heap.objs.size := I.sz
  have I1 : Inv X pins σ (upd H s.heap.objs.size (.lst [])) { s with heap := s.heap.push { cls := .type "list", data := .seq #[] } } := I.lnew (its := []) (t' := s.toks) .nil (Nat.zero_le _)
  show wpAny _ _ (Builtin.List.listItems (.ref s.heap.objs.size) >>= fun old => Builtin.List.listUpdate (.ref s.heap.objs.size) (fun _ => #[]) >>= fun _ => letGo old.toList.reverse >>= fun _ => Builtin.List.listExtendWith (.ref s.heap.objs.size) (.ref a) .none) _ _ _
  refine wpAny_bind ?_
  unfold Builtin.List.listItems
  refine wpAny_bind (wpAny_seqItems hS rfl (wpAny_pure ?_))
  show wpAny _ _ (updateSeq s.heap.objs.size (fun _ => #[]) >>= fun _ => letGo (#[] : Array Value).toList.reverse >>= fun _ => Builtin.List.listExtendWith (.ref s.heap.objs.size) (.ref a) .none) _ _ _
  refine wpAny_bind (wpAny_updateSeq hS rfl ?_)
  have I2 := I1.lset (f := fun _ => #[]) (its := []) (its' := []) (ys := []) (t' := s.toks) upd_same hS rfl .nil (Nat.zero_le _)
  rw [upd_upd] at I2
  refine wpAny_bind (wpAny_letGo ?_)
  have ha2 : upd H s.heap.objs.size (.lst []) a = some (.ins C dx fs) := by rw [upd_ne (ne_of_none ha fr)]; exact ha
  have nqa : s.heap.objs.size ≠ a := (ne_of_none ha fr).symm
  have low : s.heap.objs.size < ({ s with heap := (s.heap.push { cls := .type "list", data := .seq #[] }).update s.heap.objs.size (Obj.mapSeq fun _ => #[]) } : Shared).heap.objs.size := (I2.hok _ _ upd_same).lt
  generalize hq0 : s.heap.objs.size = q at *
  generalize ({ s with heap := (s.heap.push { cls := .type "list", data := .seq #[] }).update q (Obj.mapSeq fun _ => #[]) } : Shared) = s1 at *
  generalize hH1 : upd H q (.lst []) = H1 at *
  have hq1 : H1 q = some (.lst []) := by rw [← hH1]; exact upd_same
  obtain ⟨ox, od, J⟩ := Ow.ins_at I2 ha2
  obtain ⟨m0, hF⟩ := I2.fr
  unfold Builtin.List.listExtendWith
  refine wpAny_bind (J.type.here ?_)
  have b1 : Builtin.List.listSameRef (.ref q) (.ref a) = false := by simp [Builtin.List.listSameRef, nqa]
  have b2 : (Value.ref C == Value.type "list") = false ∧ (Value.ref C == Value.type "tuple") = false := ⟨rfl, rfl⟩
  simp only [b1, b2.1, b2.2, Bool.or_false, Bool.false_eq_true, if_false]
  refine wpAny_bind (PySem.W.owit_iter hF I2.ok.mod.kin J hs hf ?_)
  have env : ∀ {s2 : Shared} {H2 : Hp}, Inv X pins σ H2 s2 → Env0 X.prog X.w X.K X.mg X.base X.A.in1.in1 X.stack s2 H2 := fun I => by
    have e := I.env0
    exact ⟨e.frames, e.mod, e.bs, e.bsz, e.funs, e.frf, e.hok, e.bare⟩
  have room0 : Room (n + 1) X.A.in1.in1 := (hr.in1.in1).mono (by omega)
  have room1 : Room n X.A.in1.in1 := room0.mono (by omega)
  refine wpAny_mono (wpAny_call (Li.sure_at (us := [.ref a]) (ws := [.ref a]) FI room1 (env I2) I2 (.cons rfl .nil) hsp)) (fun v s3 hv => ?_) fun _ _ x => x.elim
  obtain ⟨v', H3, I3, rv3, it, x, rfl, hit, qlt, few, hq3, ha3, hsp2⟩ := hv
  cases (show v = Value.ref it from rv3)
  have st3 : AIt s3.heap it x 0 := (I3.hok it _ hit).1
  unfold PySem.W.OwitIt
  refine wpAny_specialOf (name := Str.ofString "__next__") (ai_ty st3) PySem.F.slot_str_ascii_iterator_next.lookup ?_
  refine wpAny_bind (wpAny_holding ?_)
  unfold Builtin.List.listLengthHint
  obtain ⟨ox3, od3, J3⟩ := Ow.ins_at I3 ha3
  obtain ⟨m3, hF3⟩ := I3.fr
  refine wpAny_bind (wpAny_bind (J3.type.here ((PySem.W.looks_findIn I3.kIn hl).here ?_)))
  refine PySem.W.KFB.if_not rfl ?_
  refine wp_if_pos rfl (wpAny_bind (wpAny_rule (wpAny_bind (wpAny_attempt ?_))))
  refine PySem.W.len_K hF3 I3.ok.mod.kin J3 hl hlf (wpAny_mono (wpAny_call (Li.sure_at (us := [.ref a]) (ws := [.ref a]) FL (room0.in1) (env I3).in1 I3 (.cons rfl .nil) hsp2)) (fun w s4 z => ?_) fun _ _ x => x.elim)
  obtain ⟨z', H4, I4, rz, i, rfl, h0, h1, rfl, qz⟩ := z
  obtain ⟨tk, e⟩ := (show ∃ tk, w = Value.int i tk from rz)
  cases e
  refine ⟨⟨h0, by omega⟩, ?_⟩
  dsimp only
  refine wpAny_bind (wpAny_of_eq (a := some i) rfl ?_)
  have sl := sizeLine_eq
  refine wp_if_neg (by unfold Builtin.List.listTooLong; rw [decide_eq_true_eq]; omega) (wpAny_pure ?_)
  have I5 := inv_drop (I4.tok (s4.toks + 1)) hit
  have fp : FpOk X pins (dropH H4 it) it := inv_fp I4 hit (Nat.le_trans young (Nat.le_of_lt qlt))
  have nqi : q ≠ it := Nat.ne_of_lt qlt
  have hq5 : dropH H4 it q = some (.lst []) := (dropH_ne nqi).trans hq3
  have st5 : AIt s4.heap it x 0 := (I4.hok it _ hit).1
  have hh : X.A.in1.in1.handled = none := by simp [I.ok.hd hc]
  have go : ∀ s6 : Shared, Inv X pins σ (dropH H4 it) s6 → AIt s6.heap it x 0 → codeAny (model X.prog X.w) X.A.in1 (.builtin "list.extend.loop" ⟨[.ref q, .ref it, .none], []⟩) (wants (fun r s₂ => r = .none ∧ EP X pins σ Q (.ref q) s₂) X.xe) s6 := fun s6 I6 st6 =>
    fill (x := x) hh few ((sgs x).length - 0) 0 _ s6 rfl (Nat.zero_le _) I6 hq5 fp st6 fun s7 I7 => ⟨rfl, ⟨.ref q, _, I7, rfl, qz⟩⟩
  refine wpAny_ite_split (fun _ => ?_) fun _ => wpAny_pure ⟨plainId_quiet PySem.F.plain_extend_loop _, go _ I5 st5⟩
  refine wpAny_bind (wpAny_rule (wpAny_bind ?_))
  obtain ⟨z5, its5, k5, r5, l5, e5⟩ := I5.lstM hq5
  cases r5
  show wpAny _ _ (updateSeq q (·.push Value.none) >>= fun _ => updateSeq q (·.pop)) _ _ _
  refine wpAny_bind (wpAny_updateSeq e5 rfl ?_)
  have I6 := I5.lset (f := (·.push Value.none)) (its' := [Value.none]) (ys := [.non]) (t' := s4.toks + 1) hq5 e5 (by simp) (.cons rfl .nil) (by rw [List.length_singleton, sl]; decide)
  obtain ⟨z6, its6, k6, r6, l6, e6⟩ := I6.lstM upd_same
  obtain ⟨u6, rfl, ru6⟩ := r6.one
  refine wpAny_updateSeq e6 rfl ?_ (by show 1 ≤ sizeLine; rw [sl]; decide) (by show 0 ≤ sizeLine + 1; exact Nat.zero_le _)
  have I7 := I6.lset (f := (·.pop)) (its := [u6]) (its' := []) (ys := []) (t' := s4.toks + 1) upd_same e6 (by rfl) .nil (Nat.zero_le _)
  rw [upd_upd, show upd (dropH H4 it) q (.lst []) = dropH H4 it from funext fun b => by
    by_cases c : b = q
    · rw [c, upd_same, hq5]
    · rw [upd_ne c]] at I7
  refine wpAny_pure ⟨plainId_quiet PySem.F.plain_extend_loop _, go _ I7 (si_at st5 fun o e => ?_)⟩
  exact (Heap.get?_update_other _ _ nqi).trans ((Heap.get?_update_other _ _ nqi).trans e)
end

section
variable {prog : Program} {w : World} {A : Around} {E : Value → Shared → Prop} {s : Shared}
theorem special_lst_item {it l : Addr} {i : Nat} {items : Array Value} {x : Value} {Q : Option Value → Shared → Prop} (hit : s.heap.IsListIter it l i) (hl : s.heap.IsList l items) (hx : items[i]? = some x)
    (hQ : ∀ h', h'.IsListIter it l (i + 1) → Heap.SameBut it s.heap h' → Q (some x) { s with heap := h' }) : wpAny (model prog w) A (callSpecial? (.ref it) "__next__") Q E s := by
  obtain ⟨o, ho, hc, hd⟩ := id hit
  obtain ⟨ol, hol, _, nl, hdl⟩ := hl
  refine wpAny_callSpecial?_slot (name := Str.ofString "__next__") hit.typeIs slot_listiter_next (wpAny_call_entry slot_listiter_next hit.typeIs entry_listiter_next ?_ (args_listiter_next _))
  show wpAny _ _ (field (.ref it) 0 >>= _) _ _ s
  refine wpAny_bind (wpAny_field ho hd (x := .ref l) rfl ?_)
  show wpAny _ _ (if (Value.ref l == Value.none) = true then _ else _) _ _ s
  rw [if_neg (show ¬ ((Value.ref l == Value.none) = true) from Bool.false_ne_true)]
  show wpAny _ _ (field (.ref it) 1 >>= _) _ _ s
  refine wpAny_bind (wpAny_field ho hd (x := .int i 0) rfl ?_)
  show wpAny _ _ (seqItems? (.ref l) >>= _) _ _ s
  refine wpAny_bind (wpAny_seqItems hol hdl ?_)
  simp only [Int.toNat_natCast, hx]
  refine wpAny_bind (wpAny_setField ho hd (by simp) (wpAny_pure ⟨x, rfl, hQ _ ?_ (Heap.SameBut.update ..)⟩))
  exact ⟨_, Heap.get?_update_self _ ho (Obj.isFreed_of_fields (Obj.data_mapFields hd _)), (Obj.cls_mapFields ..).trans hc, by
    rw [Obj.data_mapFields hd]; simp [rawInt]⟩
theorem special_lst_end {it l : Addr} {i : Nat} {items : Array Value} {Q : Option Value → Shared → Prop} (hh : A.handled = none) (hit : s.heap.IsListIter it l i) (hl : s.heap.IsList l items) (hx : items[i]? = none)
    (hE : ∀ e h', StopX e h' → Heap.ExtBut it s.heap h' → E e { s with heap := h' }) : wpAny (model prog w) A (callSpecial? (.ref it) "__next__") Q E s := by
  obtain ⟨o, ho, hc, hd⟩ := id hit
  obtain ⟨ol, hol, _, nl, hdl⟩ := hl
  refine wpAny_callSpecial?_slot (name := Str.ofString "__next__") hit.typeIs slot_listiter_next (wpAny_call_entry slot_listiter_next hit.typeIs entry_listiter_next ?_ (args_listiter_next _))
  show wpAny _ _ (field (.ref it) 0 >>= _) _ _ s
  refine wpAny_bind (wpAny_field ho hd (x := .ref l) rfl ?_)
  show wpAny _ _ (if (Value.ref l == Value.none) = true then _ else _) _ _ s
  rw [if_neg (show ¬ ((Value.ref l == Value.none) = true) from Bool.false_ne_true)]
  show wpAny _ _ (field (.ref it) 1 >>= _) _ _ s
  refine wpAny_bind (wpAny_field ho hd (x := .int i 0) rfl ?_)
  show wpAny _ _ (seqItems? (.ref l) >>= _) _ _ s
  refine wpAny_bind (wpAny_seqItems hol hdl ?_)
  simp only [Int.toNat_natCast, hx]
  refine wpAny_bind (wpAny_rule (wpAny_bind (wpAny_setField ho hd (by simp) ?_)))
  show wpAny _ _ (newExc (.type "StopIteration") [] >>= _) _ _ _
  refine wpAny_bind ?_
  simp only [newExc, newTuple]
  refine wpAny_bind (wpAny_newObj_type ?_ (by size_fits))
  refine wpAny_bind (m := firstArgMember _ _) (wpAny_of_eq (a := Value.none) (by first | rfl | (simp only [firstArgMember]; rfl)) ?_)
  refine wpAny_newObj_type ?_ (by size_fits)
  simp only [raiseNew]
  refine wpAny_bind (wpAny_handled ?_)
  first | rw [show A.in1.handled = none from hh] | rw [hh]
  refine wpAny_bind (wpAny_pure (wpAny_throw ?_))
  refine hE _ _ ⟨_, _, _, rfl, Heap.get?_push_size _ rfl, rfl, rfl, ?_⟩ (((Heap.SameBut.update ..).extBut.push _).push _)
  first
    | rfl
    | (rw [Array.getElem?_append_left (by decide)]; rfl)
    | kernel_rfl
end
section
variable {X : Cx} {e : Expr} {te : TE}
def tYfLst (te : TE) : TYf := fun σ H Q => te σ H fun x H1 => ∃ a xs, x = .ref a ∧ H1 a = some (.lst xs) ∧ Q xs H1
theorem close_lst : typeLookup (.type "list_iterator") "close" = pure none := by rw [typeLookup_type, builtinLookup_eq_fast]; kernel_rfl
theorem yf_lst (he : PE X e te) : YfE X e (tYfLst te) := by
  refine ⟨fun pins s σ H Q I h => ?_⟩
  refine thn (he.run pins s σ H _ I h) fun v s1 ⟨x, H1, I1, r1, a, xs, ex, ha, hq⟩ => ?_
  subst ex
  obtain rfl : v = Value.ref a := r1
  obtain ⟨its, rits, pl, hlen⟩ := I1.list (SqL.of ha)
  have ht : s1.heap.IsList a its.toArray := pl.isList
  refine ⟨"list", ht.typeIs, by decide, wpAny_pyIter_list ht ?_⟩
  have lta : a < s1.heap.objs.size := let ⟨_, e, _⟩ := ht; Heap.lt_size e
  have ksz : ∀ b o, s1.heap.get? b = some o → b ≠ s1.heap.objs.size := fun b o e => Nat.ne_of_lt (Heap.lt_size e)
  have kp : ∀ b o, s1.heap.get? b = some o → (s1.heap.push { cls := .type "list_iterator", data := .fields #[.ref a, .int 0 0] }).get? b = some o := fun b o e => Heap.get?_push_of_some _ e
  refine ⟨s1.heap.objs.size, H1, xs, fun j h => h.IsListIter s1.heap.objs.size a j ∧ h.IsList a its.toArray, rfl, I1.kept (t' := s1.toks) kp, .inr I1.sz, Nat.ne_of_gt I1.lt, fun y c hy => ?_, I1.hok.fresh (Nat.le_refl _), fun p hp => ?_,
    ⟨⟨_, Heap.get?_push_size _ rfl, rfl, rfl⟩, ht.push _⟩, ⟨⟨"list_iterator", fun j h q => ?_, close_lst, by decide⟩, fun j h h' q hk => ?_, fun A' j x s2 Q' E' hA hx q hQ => ?_, fun A' s2 Q' E' hA q hE => ?_⟩, hq⟩
  · obtain ⟨v, o, ho, _⟩ := I1.cell y c hy
    exact ksz c o ho
  · exact ksz p.1 _ (I1.pin p hp).1
  · obtain ⟨⟨o, ho, hc, _⟩, _⟩ := q
    exact ⟨o, ho, hc⟩
  · obtain ⟨⟨o, ho, r⟩, o2, ho2, r2⟩ := q
    exact ⟨⟨o, hk _ o (.inl rfl) ho, r⟩, o2, hk _ o2 (.inr (by rw [ha]; exact fun z => by cases z)) ho2, r2⟩
  · obtain ⟨q1, q2⟩ := q
    obtain ⟨u, hu, ru⟩ := rits.get hx
    have hne : a ≠ s1.heap.objs.size := Nat.ne_of_lt lta
    exact special_lst_item q1 q2 (x := u) (by simpa using hu) fun h' q1' hs => hQ u h' s2.toks ru ⟨q1', q2.extBut hs.extBut hne⟩ fun b o hb eb => hs.extBut b o hb eb
  · obtain ⟨q1, q2⟩ := q
    have hnone : its.toArray[xs.length]? = none := by
      have e := rits.length
      have e2 : its[xs.length]? = none := List.getElem?_eq_none_iff.mpr (by omega)
      simpa using e2
    exact special_lst_end hA q1 q2 hnone fun e h' hS hk => hE e h' s2.toks hS fun b o hb eb => hk b o hb eb
end
end Si2

/-! if and for in a generator def. -/
namespace Gf
open PySem PySem.Spec PyProof.Rows GenW L2
section
variable {prog : Program} {w : World} {A : Around} {R : GenEnd} {Y : Protocol} {n : Nat} {s₀ : Shared} {fs : List Frame} {s : Shared} {env : Env}
theorem seg_forLoop {target : Expr} {it : Value} {body orelse : List Stmt} {EE : Value → Shared → Prop}
    (hEE : ∀ x s', EE x s' → Seg (model prog w) A R Y n s₀ (.forLoop target it body orelse env) ((do noteFrame x env; theTreesLotGoes x : Sem Unit).wrap (fun _ => .raise x) .raise id id) fs s')
    (h : wpAny (model prog w) (A.over (.forLoop target it body orelse env) fs) (pyNext it) (fun r s₁ => match r with
      | none => Seg (model prog w) A R Y n s₀ (.forLoop target it body orelse env) (.pure (.again (.block orelse env))) fs s₁
      | some v => wpAny (model prog w) (A.over (.forLoop target it body orelse env) fs) (letOwnedTupleGo target it v) (fun _ s₂ =>
          wpAny (model prog w) (A.over (.forLoop target it body orelse env) fs) (assign target env v) (fun _ s₃ =>
            Seg (model prog w) A R Y n s₀ (.forLoop target it body orelse env) ((execs body env).wrap (fun f => match f with
              | .next | .cont => .pure (.again (.forLoop target it body orelse env))
              | .brk => .pure (.done .next)
              | .ret v => .pure (.done (.ret v))) (fun e => (do noteFrame e env; theTreesLotGoes e : Sem Unit).wrap (fun _ => .raise e) .raise id id) id id) fs s₃) EE s₂) EE s₁) EE s) :
    Seg (model prog w) A R Y n s₀ (.forLoop target it body orelse env) ((model prog w).den (.forLoop target it body orelse env)) fs s := by
  have ex : ∀ x s', EE x s' → Seg (model prog w) A R Y n s₀ (.forLoop target it body orelse env) (((do noteFrame x env; theTreesLotGoes x : Sem Unit).bind fun _ => (.raise x : Sem PySem.Fin))) fs s' := fun x s' e => by
    rw [Sem.bind_eq_wrap]
    exact hEE x s' e
  show Seg _ A R Y n s₀ _ ((forTurn target it body orelse env).onRaise (fun x => do noteFrame x env; theTreesLotGoes x)) fs s
  unfold forTurn
  rw [Sem.onRaise_eq_wrap, Sem.bind_eq_wrap', Sem.wrap_wrap]
  refine seg_wrap (wpAny_standAt ?_)
  rw [Sem.bind_eq_wrap', Sem.wrap_wrap]
  refine seg_wrap (wpAny_onRaise (wpAny_mono h (fun r s1 h1 => ?_) fun x s' hx => wpAny_standAt (ex x s' hx)))
  cases r with
  | none => exact h1
  | some v =>
    show Seg _ A R Y n s₀ _ (Sem.wrap _ _ _ _ (letOwnedTupleGo target it v >>= fun _ => _)) fs s1
    rw [Sem.bind_eq_wrap' (letOwnedTupleGo target it v), Sem.wrap_wrap]
    refine seg_wrap (wpAny_mono h1 (fun _ s2 h2 => ?_) fun x s' hx => ex x s' hx)
    rw [Sem.bind_eq_wrap' (assign target env v), Sem.wrap_wrap]
    refine seg_wrap (wpAny_mono h2 (fun _ s3 h3 => ?_) fun x s' hx => ex x s' hx)
    rw [Sem.bind_eq_wrap' (execs body env), Sem.wrap_wrap]
    rw [Sem.wrap_congr (execs body env) _ _ (K' := fun f => match f with
          | .next | .cont => .pure (.again (.forLoop target it body orelse env))
          | .brk => .pure (.done .next)
          | .ret v => .pure (.done (.ret v))) (H' := (fun e => (do noteFrame e env; theTreesLotGoes e : Sem Unit).wrap (fun _ => .raise e) .raise id id))
      (fun f => by cases f <;> rfl)
      (fun e => by first | exact Sem.bind_eq_wrap _ _ | (show (do noteFrame e env; theTreesLotGoes e : Sem Unit).bind (fun _ => .raise e) = _; rw [Sem.bind_eq_wrap]))]
    exact h3
end
section
variable {X : Cx} {pos : Pos}
def tGIf (tc : TT) (t u : TGn) : TGn := fun D ys σ H => tc σ H fun b H1 => if b = true then t D ys σ H1 else u D ys σ H1
theorem gs_if {c : Expr} {a b : List Stmt} {tc : TT} {t u : TGn} (hc : PT X c tc) (ha : GSs X a t) (hb : GSs X b u) : GS X (.If c a b pos) (tGIf tc t u) := by
  refine ⟨fun A S ip R n ys s₀ cd fs K J gd lv s σ H D g hn k hI ht => ?_⟩
  obtain ⟨acc, cc, r, I⟩ := hI
  rw [exec_If]
  rw [Sem.bind_eq_wrap', Sem.wrap_wrap]
  refine seg_wrap (wpAny_standAt ?_)
  rw [Sem.bind_eq_wrap', Sem.wrap_wrap]
  refine seg_wrap ?_
  rw [g.over]
  refine wpAny_mono (hc.run _ s σ H _ I ht) (fun d s' hd => ?_) fun x s' hx => k.exc n s₀ x s' hx
  obtain ⟨H2, I2, q⟩ := hd
  cases d with
  | true => exact ha.run A S ip R n ys s₀ cd fs K J gd lv s' σ H2 D g hn k ⟨acc, cc, r, I2⟩ q
  | false => exact hb.run A S ip R n ys s₀ cd fs K J gd lv s' σ H2 D g hn k ⟨acc, cc, r, I2⟩ q
def tGFor (wi : TI) (g : TG) (tb : TGn) : TGn := fun D ys σ H => wi σ H fun J H1 => ∃ W : Nat → Nat → List V → L2.St → Hp → Prop, (∃ m, W 0 m ys σ H1) ∧ ∀ i m ys σ H, W i m ys σ H →
  (J.stop i H ∧ D.nx ys σ H) ∨ (J.go i H ∧ ∃ N : List V → L2.St → Hp → Prop, (∀ ys' σ' H', N ys' σ' H' → ∃ m', m' < m ∧ W (i + 1) m' ys' σ' H') ∧ ∀ x H', J.yld i H x H' → g x σ H' fun σ2 H2 => tb { D with nx := N, ct := N, bk := D.nx } ys σ2 H2)
theorem gs_for {iter tg : Expr} {body : List Stmt} {wi : TI} {g : TG} {tb : TGn} (hp : PassesOwn (model X.prog X.w) X.A X.env X.xe) (hc : X.calm = true) (hi : PI X tg iter wi) (hg : PG X tg g) (hb : GSs X body tb)
    (hs : ∀ x, foldedSetIterable iter X.env x = pure x := by intro _; rfl) : GS X (.For tg iter body [] pos) (tGFor wi g tb) := by
  refine ⟨fun A S ip R n ys s₀ cd fs K J gd lv s σ H D g0 hn k hI ht => ?_⟩
  obtain ⟨acc, cc, r, I⟩ := hI
  rw [exec_For]
  simp only [hs]
  rw [Sem.bind_eq_wrap', Sem.wrap_wrap]
  refine seg_wrap (wpAny_standAt ?_)
  rw [Sem.bind_eq_wrap', Sem.wrap_wrap]
  refine seg_wrap ?_
  rw [g0.over]
  refine wpAny_mono (hi.run _ s σ H _ I ht) (fun v s1 h1 => ?_) fun x s' hx => k.exc n s₀ x s' hx
  show Seg _ _ _ _ _ _ _ (Sem.wrap _ _ _ _ (standAt iter.pos >>= _)) _ _
  rw [Sem.bind_eq_wrap', Sem.wrap_wrap]
  refine seg_wrap (wpAny_standAt ?_)
  rw [Sem.bind_eq_wrap', Sem.wrap_wrap]
  refine seg_wrap ?_
  rw [g0.over]
  refine wpAny_holding (wpAny_mono h1 (fun itv s2 h2 => ?_) fun x s' hx => k.exc n s₀ x s' hx)
  obtain ⟨it, fp, tn, JJ, H2, e, I2, T, st2, f2, W, ⟨m0, w0⟩, turn⟩ := h2
  subst e
  have stat : ∀ {acc' : Array Value} {c' : Nat} {H' : Hp}, (∀ b ∈ fp, H' b = none) → ∀ b ∈ fp, FpOk X ((S, lstObj acc' c') :: ip) H' b := fun hn b hb => by
    obtain ⟨_, a1, a2, a3, a4, a5⟩ := f2 b hb
    refine ⟨hn b hb, a1, a2, a3, a4, fun p hp => ?_⟩
    rcases List.mem_append.mp hp with hp | hp
    · exact a5 p (List.mem_append_left _ hp)
    · rcases List.mem_cons.mp hp with hp | hp
      · rw [hp]
        exact a5 (S, lstObj acc cc) (List.mem_append_right _ List.mem_cons_self)
      · exact a5 p (List.mem_append_right _ (List.mem_cons_of_mem _ hp))
  have fS : ∀ b ∈ fp, b ≠ S := fun b hb z => (f2 b hb).2.2.2.2.2 (S, lstObj acc cc) (List.mem_append_right _ List.mem_cons_self) z.symm
  refine seg_call fun p => ?_
  have gl := fun (kk : Result → Sem PySem.Fin) => gc_loop (k := kk) (c' := .forLoop tg (.ref it) body [] X.env) (l := lv []) (kp := []) (p := p) g0 rfl rfl
  have glb := fun (kk : Result → Sem PySem.Fin) => gc_loop (k := kk) (c' := .block [] X.env) (l := lv []) (kp := []) (p := p) g0 rfl rfl
  have out : ∀ {ys : List V} {σ : L2.St} {H : Hp} {s' : Shared} {hh : Heap}, GI X S (ip ++ pinsAt fp hh) ys σ H s' → GI X S ip ys σ H s' := fun ⟨a, c', r', I'⟩ => ⟨a, c', r', Inv.unpinned (pins := (S, lstObj a c') :: ip) I'⟩
  have loop : ∀ (m i n : Nat) (ys : List V) (s₀ s : Shared) (σ : L2.St) (H : Hp), n + ys.length = sizeLine → W i m ys σ H → GI X S ip ys σ H s → tn i s.heap → (∀ b ∈ fp, H b = none) →
      Seg (model X.prog X.w) A R (GY X S) n s₀ (.forLoop tg (.ref it) body [] X.env) ((model X.prog X.w).den (.forLoop tg (.ref it) body [] X.env))
        (.ret (fun r => ((match r with | .ok f => (.pure f : Sem Flow) | .error e => .raise e).onRaise (cameBack X.env)).wrap K J gd lv) none (gd false) (lv []) cd p [] :: fs) s := by
    intro m
    induction m using Nat.strongRecOn with
    | ind m ih =>
      intro i n ys s₀ s σ H hn w hI st fr
      have ee : ∀ (n : Nat) (s₀ : Shared) (x : Value) (s' : Shared), X.xe x s' → Seg (model X.prog X.w) A R (GY X S) n s₀ (.forLoop tg (.ref it) body [] X.env)
          ((do noteFrame x X.env; theTreesLotGoes x : Sem Unit).wrap (fun _ => .raise x) .raise id id)
          (.ret (fun r => ((match r with | .ok f => (.pure f : Sem Flow) | .error e => .raise e).onRaise (cameBack X.env)).wrap K J gd lv) none (gd false) (lv []) cd p [] :: fs) s' := fun n s₀ x s' hx => by
        refine seg_wrap ?_
        rw [(gl _).over]
        refine wpAny_bind (wpAny_mono (hp x s' hx) (fun _ s'' hcb => wpAny_theTreesLotGoes ?_) fun y s'' hcb => ?_)
        · exact seg_leaf (.error x) (seg_cameBack g0 k hcb)
        · exact seg_leaf (.error y) (seg_cameBack g0 k hcb)
      refine seg_forLoop (EE := X.xe) (fun x s' hx => ee n s₀ x s' hx) ?_
      rw [(gl _).over]
      obtain ⟨acc, cc, r, I⟩ := hI
      rcases turn i m ys σ H w with ⟨stop, qn⟩ | ⟨go, N, hN, step⟩
      · refine wpAny_mono (T.done X rfl rfl rfl hc i _ s σ H X.xe I (stat fr) st stop) (fun rr s4 h4 => ?_) fun x s' hx => hx
        obtain ⟨hr, I4⟩ := h4
        subst hr
        refine seg_again rfl ?_
        exact seg_leaf (.ok .next) (k.ok n ys s₀ s4 .next hn ⟨σ, H, ⟨acc, cc, r, I4⟩, qn⟩)
      · refine wpAny_mono (T.item X rfl rfl rfl hc i _ s σ H X.xe I (stat fr) st go) (fun rr s4 h4 => ?_) fun x s' hx => hx
        obtain ⟨u, hr, h4⟩ := h4
        subst hr
        refine wpAny_mono h4 (fun _ s5 h5 => ?_) fun x s' hx => hx
        obtain ⟨x, H5, I5, r5, y5, st5, fr5⟩ := h5
        have I5' := I5.pinned (stat fr5) (T.obj _ _ st5)
        refine wpAny_mono (hg.run _ s5 σ H5 x u _ I5' r5 (step x H5 y5)) (fun _ s6 h6 => ?_) fun x s' hx => hx
        obtain ⟨σ6, H6, I6, q6⟩ := h6
        have gb : GC X S (ip ++ pinsAt fp s5.heap) A (.forLoop tg (.ref it) body [] X.env) (.ret (fun r => ((match r with | .ok f => (.pure f : Sem Flow) | .error e => .raise e).onRaise (cameBack X.env)).wrap K J gd lv) none (gd false) (lv []) cd p [] :: fs) id := { gl _ with
          ip := fun q hq => by
            rcases List.mem_append.mp hq with hq | hq
            · exact g0.ip q hq
            · exact fS q.1 (of_pinsAt hq).1 }
        refine hb.run A S (ip ++ pinsAt fp s5.heap) R n ys s₀ _ _ _ _ id id s6 σ6 H6 { D with nx := N, ct := N, bk := D.nx } gb hn ⟨fun n' ys' s₀' s7 f hn' hs => ?_, fun n' s₀' x s3 hx => ee n' s₀' x s3 hx⟩ ⟨acc, cc, r, I6⟩ q6
        have again : ∀ {σ7 : L2.St} {H7 : Hp}, GI X S (ip ++ pinsAt fp s5.heap) ys' σ7 H7 s7 → N ys' σ7 H7 → Seg (model X.prog X.w) A R (GY X S) n' s₀' (.forLoop tg (.ref it) body [] X.env) (.pure (.again (.forLoop tg (.ref it) body [] X.env)))
            (.ret (fun r => ((match r with | .ok f => (.pure f : Sem Flow) | .error e => .raise e).onRaise (cameBack X.env)).wrap K J gd lv) none (gd false) (lv []) cd p [] :: fs) s7 := fun {σ7 H7} I7 n7 => by
          obtain ⟨m', hm, w7⟩ := hN ys' σ7 H7 n7
          obtain ⟨a7, c7, r7, J7⟩ := id I7
          refine seg_again rfl (ih m' hm (i + 1) n' ys' s₀' s7 σ7 H7 hn' w7 (out I7) ?_ fun b hb' => ?_)
          · exact T.keep _ _ _ st5 fun b hb' o e => (J7.pin (b, o) (List.mem_append_right _ (List.mem_cons_of_mem _ (List.mem_append_right _ (mem_pinsAt hb' e))))).1
          · obtain ⟨o, e, d⟩ := T.obj _ _ st5 b hb'
            exact (J7.pin (b, o) (List.mem_append_right _ (List.mem_cons_of_mem _ (List.mem_append_right _ (mem_pinsAt hb' e))))).2.1
        cases f with
        | next => obtain ⟨σ7, H7, I7, n7⟩ := hs; exact again I7 n7
        | cont => obtain ⟨σ7, H7, I7, n7⟩ := hs; exact again I7 n7
        | brk => obtain ⟨σ7, H7, I7, q7⟩ := hs; exact seg_leaf (.ok .next) (k.ok n' ys' s₀' s7 .next hn' ⟨σ7, H7, out I7, q7⟩)
        | ret v => obtain ⟨x7, σ7, H7, I7, r7, q7⟩ := hs; exact seg_leaf (.ok (.ret v)) (k.ok n' ys' s₀' s7 (.ret v) hn' ⟨x7, σ7, H7, out I7, r7, q7⟩)
  exact loop m0 0 n ys s₀ s2 σ H2 hn w0 ⟨acc, cc, r, I2⟩ st2 fun b hb' => (f2 b hb').1
end
end Gf
namespace Gf
open PySem PySem.Spec PyProof.Rows L2
/-- over a tuple that stays -/
theorem gfor_tup {K : PySem.W.Frag} {a : Addr} {xs : List V} {g : TG} {tb : TGn} {D : GEnds} {ys : List V} {σ : L2.St} {H : Hp} (Pv : Nat → List V → L2.St → Hp → Prop) (h0 : Pv 0 ys σ H) (hl : ∀ i ys σ H, i ≤ xs.length → Pv i ys σ H → SqT K H a xs)
    (hs : ∀ i x ys σ H, xs[i]? = some x → Pv i ys σ H → g x σ H fun σ2 H2 => tb { D with nx := Pv (i + 1), ct := Pv (i + 1), bk := D.nx } ys σ2 H2) (hd : ∀ ys σ H, Pv xs.length ys σ H → D.nx ys σ H) :
    ∃ W : Nat → Nat → List V → L2.St → Hp → Prop, (∃ m, W 0 m ys σ H) ∧ ∀ i m ys σ H, W i m ys σ H →
      ((Itt K a).stop i H ∧ D.nx ys σ H) ∨ ((Itt K a).go i H ∧ ∃ N : List V → L2.St → Hp → Prop, (∀ ys' σ' H', N ys' σ' H' → ∃ m', m' < m ∧ W (i + 1) m' ys' σ' H') ∧ ∀ x H', (Itt K a).yld i H x H' → g x σ H' fun σ2 H2 => tb { D with nx := N, ct := N, bk := D.nx } ys σ2 H2) := by
  refine ⟨fun i m ys σ H => m = xs.length - i ∧ i ≤ xs.length ∧ Pv i ys σ H, ⟨xs.length, by simp, Nat.zero_le _, h0⟩, ?_⟩
  rintro i m ys σ H ⟨rfl, hi, p⟩
  have q := hl i ys σ H hi p
  by_cases hlt : i < xs.length
  · refine .inr ⟨⟨xs, xs[i], q, by simp [hlt]⟩, Pv (i + 1), fun ys' σ' H' p' => ⟨xs.length - (i + 1), by omega, rfl, hlt, p'⟩, fun x H' y => ?_⟩
    obtain ⟨e, y⟩ := y
    subst e
    exact hs i x ys σ _ (y xs q) p
  · have e : i = xs.length := by omega
    subst e
    exact .inl ⟨⟨xs, q, Nat.le_refl _⟩, hd ys σ H p⟩
end Gf

/-! [t, t, t, t] == [t, t, t, t], whatever the text. -/
namespace Eq4
open PySem PySem.Spec PyProof.Rows L2
def rEq4 (K : PySem.W.Frag) : R2 := fun x y H Q => ∃ p q t, x = .ref p ∧ y = .ref q ∧ SqL K H p [.str t, .str t, .str t, .str t] ∧ SqL K H q [.str t, .str t, .str t, .str t] ∧ Q (.bl true) H
theorem op_eq4 {X : Cx} (hu : X.A.units + 64 < cLine) : OpR X (compareOp .Eq) (rEq4 X.K) := by
  intro pins s σ H x y v u Q I rx ry h
  obtain ⟨p, q, t, rfl, rfl, hp, hq, h⟩ := h
  cases rx
  cases ry
  obtain ⟨its, r1, p1, _⟩ := I.list hp
  obtain ⟨its2, r2, p2, _⟩ := I.list hq
  rcases r1 with _ | ⟨a1, r1⟩
  rcases r1 with _ | ⟨a2, r1⟩
  rcases r1 with _ | ⟨a3, r1⟩
  rcases r1 with _ | ⟨a4, r1⟩
  cases r1
  rcases r2 with _ | ⟨b1, r2⟩
  rcases r2 with _ | ⟨b2, r2⟩
  rcases r2 with _ | ⟨b3, r2⟩
  rcases r2 with _ | ⟨b4, r2⟩
  cases r2
  obtain ⟨k1, rfl⟩ := a1
  obtain ⟨k2, rfl⟩ := a2
  obtain ⟨k3, rfl⟩ := a3
  obtain ⟨k4, rfl⟩ := a4
  obtain ⟨m1, rfl⟩ := b1
  obtain ⟨m2, rfl⟩ := b2
  obtain ⟨m3, rfl⟩ := b3
  obtain ⟨m4, rfl⟩ := b4
  have e := PySem.SeqAt.RcAt.lists (A := X.A) (s := s) (e := fun _ => true) p1.isList p2.isList rfl (by omega) (fun j h1 h2 => by
    have c : j = 0 ∨ j = 1 ∨ j = 2 ∨ j = 3 := by
      have : j < 4 := h1
      omega
    rcases c with rfl | rfl | rfl | rfl
    · have := PySem.SeqAt.EqAt.str_str (A := X.A.in1) (s := s) t k1 t m1
      simpa using this
    · have := PySem.SeqAt.EqAt.str_str (A := X.A.in1) (s := s) t k2 t m2
      simpa using this
    · have := PySem.SeqAt.EqAt.str_str (A := X.A.in1) (s := s) t k3 t m3
      simpa using this
    · have := PySem.SeqAt.EqAt.str_str (A := X.A.in1) (s := s) t k4 t m4
      simpa using this)
  exact e X.prog X.w X.xe _ ⟨.bl true, H, I, rfl, h⟩
end Eq4

/-! try: .. except A as n: .. except B as m: .. (any number of clauses, each with its name). -/
namespace Ta
open PySem PySem.Spec PyProof.Rows L2
/-- one clause: the class that it names, the slot of its name, what its suite does -/
structure Hd where
  c : Value
  i : Nat
  ts : Addr → Value → Option Addr → TS
/-- behind a suite its name is gone -/
def Off (D : Ends) (i : Nat) : Ends where
  nx σ H := D.nx (σ.set i none) H
  rt := D.rt
  bk σ H := D.bk (σ.set i none) H
  ct σ H := D.ct (σ.set i none) H
/-- what the clauses ask of an exception that comes out of the body -/
def wish (K : PySem.W.Frag) (W : WX) (D : Ends) : List Hd → WX
  | [] => W
  | h :: r => fun cls d σ H => ∃ y, PySem.W.exmOne K cls h.c = some y ∧
      (y = true → ∀ a, H a = none → h.ts a cls d (Off D h.i) (σ.set h.i (some (.ref a))) H) ∧ (y = false → wish K W D r cls d σ H)
inductive Hds (X : Cx) : List ExceptHandler → List Hd → Prop
  | nil : Hds X [] []
  | cons {h : Hd} {x n : Str} {b₀ : Stmt} {rows : List Stmt} {p q : Pos} {hs : List ExceptHandler} {l : List Hd}
      (hi : X.N[h.i]? = some n) (hl : X.env.kindOf n = some .local) (hc : Names X x h.c)
      (hr : ∀ (a : Addr) (oe : Obj) (cls : Value) (d : Option Addr) (pn : List (Addr × Obj)), Zc cls d oe → (∃ vs, oe.data = .fields vs) →
        PSs (X.suite a ((a, oe) :: pn)) (b₀ :: rows) (h.ts a cls d))
      (t : Hds X hs l) : Hds X (.ExceptHandler (some (.Name x p)) (some n) (b₀ :: rows) q :: hs) (h :: l)
section
variable {X : Cx} {body : List Stmt} {hs : List ExceptHandler} {l : List Hd} {pos : Pos} {tb : WX → TS} {W : WX}
/-- how the body's own end is the whole one's -/
theorem calm_end {pins : List (Addr × Obj)} {D : Ends} {xe : Value → Shared → Prop} (ok : X.Ok) {f : Flow} {s : Shared} (h : SP (X.tr (X.pn ++ pins) xe) [] D f s) : SP X pins D f s := by
  cases f with
  | ret u =>
    obtain ⟨v, σ, H, J, r, q⟩ := h
    exact ⟨v, σ, H, J.ofTry ok, r, q⟩
  | next => obtain ⟨σ, H, J, q⟩ := h; exact ⟨σ, H, J.ofTry ok, q⟩
  | brk => obtain ⟨σ, H, J, q⟩ := h; exact ⟨σ, H, J.ofTry ok, q⟩
  | cont => obtain ⟨σ, H, J, q⟩ := h; exact ⟨σ, H, J.ofTry ok, q⟩
/-- an exception has landed at a: the clauses are asked one behind the other -/
theorem asked {pins : List (Addr × Obj)} {D : Ends} {a : Addr} {B h3 : Heap} {sI s' : Shared} {σ : L2.St} {H : Hp} {cls : Value} {d : Option Addr} (stk : X.stack = X.env :: X.outer) (fr : X.env.frame = some X.env.locals) (nd : X.N.Nodup) (tk : Takes X W)
    (J : Inv X pins σ H sI) (nb : ∀ b o, sI.heap.get? b = some o → b ∉ frs X.stack → B.get? b = some o) (up : sI.heap.UpToSlots s'.heap) (up3 : s'.heap.UpToSlots h3) (na : H a = none) (os : s'.os = sI.os) (ag : AllBare s'.gens)
    (fl : HandSPX.FlyingZ B (X.env :: X.outer) a (Zc cls d) h3) : ∀ {hs : List ExceptHandler} {l : List Hd}, Hds X hs l → wish X.K W D l cls d σ H →
    wpAny (model X.prog X.w) X.A (handleBy (.ref a) X.env hs) (SP X pins D) X.xe { s' with heap := h3 } := by
  have free : ∀ {g : Heap} {o : Obj} {vs : Array Value}, HandSPX.FlyingZ B (X.env :: X.outer) a (Zc cls d) g → g.get? a = some o → o.data = .fields vs → a ≠ X.env.locals ∧ a ∉ X.fs := by
    intro g o vs fg eo ed
    have out : a ∉ frs (X.env :: X.outer) := by
      intro m
      obtain ⟨_, o2, e2, no⟩ := fg.2.2.1.mem m
      cases eo.symm.trans e2
      exact no _ ed
    constructor
    · intro z
      exact out (List.mem_filterMap.mpr ⟨X.env, by simp, by rw [fr, z]⟩)
    · intro m
      obtain ⟨e, me, q⟩ := List.mem_filterMap.mp m
      exact out (List.mem_filterMap.mpr ⟨e, by simp [me], q⟩)
  intro hs l hk
  induction hk with
  | nil =>
    intro hW
    obtain ⟨_, _, _, oe, vs, _, _, _, eo, _, ed, e1, _⟩ := id fl
    refine wpAny_handleBy_nil ?_
    have out : wpAny (model X.prog X.w) X.A (setFlight (.ref a) X.env.frame) (fun _ t => wpAny (model X.prog X.w) X.A (throw (.ref a) : Sem Flow) (SP X pins D) X.xe t) X.xe { s' with heap := h3 } := by
      rw [fr]
      refine HandSPX.setFlight_upZ fl fun g hg ug => ?_
      have sky : Sky B X.stack a (Zc cls d) X.env.locals g := by
        rw [stk]
        exact .inr (.inr hg)
      exact wpAny_throw (tk _ _ ⟨a, B, sI, pins, σ, H, cls, d, rfl, J, nb, (up.trans up3).trans ug, sky, na, os, ag, hW⟩)
    unfold PySem.passOn
    refine wpAny_bind (wpAny_field eo ed e1 ?_)
    rw [if_neg (by simp)]
    first
      | exact wpAny_bind out
      | exact wpAny_bind (wpAny_pure (wpAny_bind out))
  | @cons h x n b₀ rows p q hs l hi hl hc hr t ih =>
    rintro ⟨y, ey, yes, no⟩
    obtain ⟨oe, vs, eo, ez, ed⟩ := fl.there
    obtain ⟨n1, n2⟩ := free fl eo ed
    have J3 := J.landed nb fl.1 (s' := { s' with heap := h3 }) (up.trans up3) os ag
    have S3 := J3.suite eo ed na n1 n2
    have kind : PySem.W.Looks (model X.prog X.w) h3 (typeOf (.ref a)) cls := by
      intro A Q E z k q
      refine wpAny_typeOf_ref (k _ _ eo) ?_
      rw [ez.1]
      exact q
    have one := PySem.W.exm_one (M := model X.prog X.w) J3.kIn kind ey
    refine wpAny_handleBy_cons (codeAny_handlers_test ?_) (by intro z; cases z)
    have name : ∀ {Q E : Value → Shared → Prop}, Q h.c { s' with heap := h3 } → wpAny (model X.prog X.w) (X.A.mark (some (.ref a))) (eval (.Name x p) X.env) Q E { s' with heap := h3 } := by
      intro Q E qq
      rcases hc with ⟨g1, g2, g3 | ⟨g3, g4, g5⟩⟩
      · exact ld_glob (X := X.suite a ((a, oe) :: (X.pn ++ pins))) S3 g1 g3 qq g2
      · exact ld_blt (X := X.suite a ((a, oe) :: (X.pn ++ pins))) S3 g1 g3 g4 qq g5 g2
    refine name (one.here ?_)
    cases y with
    | false => exact ih (no rfl)
    | true =>
      refine codeAny_handlers_suite_as ?_
      refine HandSPX.lands_againZ fl fun g fg ug => ?_
      obtain ⟨oe2, vs2, eo2, ez2, ed2⟩ := fg.there
      obtain ⟨m1, m2⟩ := free fg eo2 ed2
      have J4 := J.landed nb fg.1 (s' := { s' with heap := g }) ((up.trans up3).trans ug) os ag
      refine store_ok (X := X.suite a ((a, oe2) :: (X.pn ++ pins))) (v := .ref a) (J4.suite eo2 ed2 na m1 m2) nd hi (.inl hl) rfl (fun s5 S5 => ?_) (.inr hl)
      have body := (hr a oe2 cls d (X.pn ++ pins) ez2 ⟨_, ed2⟩).run [] s5 _ H _ S5 (yes rfl a na)
      refine wpAny_mono body (fun f s6 end6 => ?_) fun _ _ z => z.elim
      have ok := J.ok
      cases f with
      | ret u =>
        obtain ⟨v6, σ6, H6, S6, r6, q6⟩ := end6
        exact gone_ok (S6.unsuite ok) nd hi hl fun s7 J7 => ⟨_, _, _, J7, r6, q6⟩
      | next =>
        obtain ⟨σ6, H6, S6, q6⟩ := end6
        exact gone_ok (S6.unsuite ok) nd hi hl fun s7 J7 => ⟨_, _, J7, q6⟩
      | brk =>
        obtain ⟨σ6, H6, S6, q6⟩ := end6
        exact gone_ok (S6.unsuite ok) nd hi hl fun s7 J7 => ⟨_, _, J7, q6⟩
      | cont =>
        obtain ⟨σ6, H6, S6, q6⟩ := end6
        exact gone_ok (S6.unsuite ok) nd hi hl fun s7 J7 => ⟨_, _, J7, q6⟩
theorem ps_try_ass {h₀ : ExceptHandler} {h1 : Hd} (stk : X.stack = X.env :: X.outer) (fr : X.env.frame = some X.env.locals) (nd : X.N.Nodup) (tk : Takes X W)
    (hb : ∀ (U : WX) (pn : List (Addr × Obj)) (xe : Value → Shared → Prop), Takes (X.tr pn xe) U → PassesOwn (model X.prog X.w) X.A X.env xe → PSs (X.tr pn xe) body (tb U))
    (hh : Hds X (h₀ :: hs) (h1 :: l)) : PS X (.Try body (h₀ :: hs) [] [] pos) (fun D σ H => tb (wish X.K W D (h1 :: l)) D σ H) := by
  constructor
  intro pins s σ H D I go
  have ok := I.ok
  refine wpAny_Try_except ?_
  have run := (hb (wish X.K W D (h1 :: l)) (X.pn ++ pins) (fun e t1 => wpAny (model X.prog X.w) X.A (noteFrame e X.env) (fun _ t2 =>
    wpAny (model X.prog X.w) X.A (setFlight e none) (fun _ t3 => wpAny (model X.prog X.w) X.A (handleBy e X.env (h₀ :: hs)) (SP X pins D) X.xe t3) X.xe t2) X.xe t1) ?_ PassesOwn.looking).run [] s σ H D (I.toTry _) go
  · refine wpAny_mono run (fun f s1 e1 => ?_) fun _ _ z => z
    have e2 := calm_end ok e1
    cases f with
    | next => exact wpAny_execs_nil e2
    | ret u => exact e2
    | brk => exact e2
    | cont => exact e2
  · intro u s' xx
    obtain ⟨a, B, sI, pins2, σ', H', cls, d, rfl, J', nb, up, sky, na, os, ag, hw⟩ := xx
    have sky2 : Sky B (X.env :: X.outer) a (Zc cls d) X.env.locals s'.heap := by
      rw [← stk]
      exact sky
    show wpAny (model X.prog X.w) X.A (noteFrame (.ref a) X.env) _ _ _
    exact Sky.land Zc.steady (by rw [ok.frames, stk]) fr sky2 fun h3 fl up3 => asked stk fr nd tk (J'.ofTry ok) nb up up3 na os ag fl hh hw
end
end Ta

/-! An own error with one field, BadCase, as the guide's skeleton on own errors gives it. -/
namespace PySem
namespace LowY
open PySem.W PySem.Calls PyProof.Rows PySem.HandSPX
/-! ### the text of __init__ -/
def iA (p1 p2 : Pos) : Arguments := { posonlyargs := [], args := [{ arg := "self", annotation := none, pos := p1 }, { arg := "case", annotation := none, pos := p2 }], vararg := none, kwonlyargs := [], kw_defaults := [], kwarg := none, defaults := [] }
def iB (q1 q2 q3 q4 : Pos) : List Stmt := [.Assign [.Attribute (.Name "self" q1) "case" q2] (.Name "case" q3) q4]
def iS : Scope := { kind := .function, names := [(PySem.Str.ofString "self", .local), (PySem.Str.ofString "case", .local)], isGenerator := false, isCoroutine := false, more := [] }
/-- what the written part says of Low, at C, and of its __init__, at fI -/
structure LowTxt (K : Frag) (mg : Str → Option Value) (C fI : Addr) : Prop where
  gC : mg "BadCase" = some (.ref C)
  cls : ∃ nm q N bs bm sn sub ab col dd k0 k1 k2 k3 k5, K.lookup C = some (excClassObj nm q C N bs bm true sn sub ab col dd k0 k1 k2 k3 k5 "ValueError.__new__") ∧ refsVE bm = true
  sa : findIn K (.ref C) "__setattr__" = some (some (.builtin "object.__setattr__"))
  ga : findIn K (.ref C) "__getattribute__" = some (some (.builtin "BaseException.__getattribute__"))
  gg : findIn K (.ref C) "__getattr__" = some none
  noN : findIn K (.ref C) "case" = some none
  iC : findIn K (.ref C) "__init__" = some (some (.ref fI))
  tC : typeIn K (.ref fI) = some (.type "function")
  kC : keepIn K (.ref C) = true
  exC : subIn K (.ref C) (.type "BaseException") = some true
  tyC : typeIn K (.ref C) = some (.type "type")
  hdC : hasDictIn K C = true
  te : exmOne K (.ref C) (.ref C) = some true
  fn : ∃ (oc : Value) (od : Option Addr) (doc pm : Value) (an : Option Addr) (cdv ct : Value) (osl : Array (Option Value)) (p1 p2 q1 q2 q3 q4 : Pos),
    K.lookup fI = some ⟨oc, od, .func (fnOf "__init__" "BadCase.__init__" (iA p1 p2) (iB q1 q2 q3 q4) iS .none .none doc pm an cdv ct), osl⟩ ∧ codeIn K cdv "BadCase.__init__" = true
theorem one_size (v : Value) : [v].length ≤ sizeLine := by
  rw [sizeLine_eq]
  exact (by decide : 1 ≤ 16777216)
theorem kept_but {K : Frag} {h h' : Heap} {x : Addr} (X : K.In h) (hx : K.lookup x = none) (k : ∀ b o, b ≠ x → h.get? b = some o → h'.get? b = some o) : K.In h' := fun a o e =>
  k a o (fun z => by rw [z, hx] at e; cases e) (X a o e)
theorem ldC {M : Model} {s : Shared} {name : Str} {scope : Scope} {L a : Addr} {cd : Value} {m : Str → Option Value} {x : Str} {pos : Pos} {v : Value} {Q : Value → Shared → Prop} {A : Around} {E : Value → Shared → Prop} (hn : s.heap.Ns L m) (hv : m x = some v) (h : Q v s)
    (hk : scope.kind = .function := by rfl) (hl : (envOfC name scope L a cd).kindOf x = some .local := by rfl) (hd : (x == ("__debug__" : Str)) = false := by decide) :
    wpAny M A (eval (.Name x pos) (envOfC name scope L a cd)) Q E s := wpAny_Name (wpAny_loadName_local hk hl hn hv h) hd
/-- what __init__ leaves of a fresh exception at x -/
structure InitEnd (h h' : Heap) (x C dx t1 : Addr) (v : Value) : Prop where
  keep : ∀ b o, b ≠ x → h.get? b = some o → h'.get? b = some o
  obj : h'.get? x = some { cls := .ref C, dict := some dx, data := .fields #[.ref t1, .none, .none, .none, .bool false, .none] }
  dbig : h.objs.size ≤ dx
  dne : dx ≠ x
  ns : h'.Ns1 dx (fun y => if y = "case" then some v else none)
/-- a made Low -/
structure OwnMade (h h' : Heap) (e C d : Addr) (v : Value) : Prop where
  keep : ∀ b o, h.get? b = some o → h'.get? b = some o
  new : h.objs.size ≤ e
  obj : ∃ oe vs, h'.get? e = some oe ∧ oe.cls = .ref C ∧ oe.dict = some d ∧ oe.data = .fields vs ∧ vs[1]? = some .none
  dbig : h.objs.size ≤ d
  dne : d ≠ e
  ns : h'.Ns1 d (fun y => if y = "case" then some v else none)
section
variable {prog : Program} {w : World} {A : Around} {E : Value → Shared → Prop} {R : Result → Shared → Prop} {s : Shared} {K : Frag} {mg : Str → Option Value} {C fI : Addr}
theorem low_init (T : LowTxt K mg C fI) {x t0 : Addr} {v : Value} (X : K.In s.heap) (hlim : s.heap.NoLimit) (hx : s.heap.get? x = some (excO C t0)) (hnx : K.lookup x = none) (hroom : A.depth < recursionLimit)
    (hq : ∀ h' tk dx, InitEnd s.heap h' x C dx t0 v → R (.ok (.ret .none)) { s with heap := h', toks := tk }) :
    codeAny (model prog w) A (.call (.ref fI) ⟨[.ref x, v], []⟩) R s := by
  obtain ⟨oc, od, doc, pm, an, cdv, ct, osl, p1, p2, q1, q2, q3, q4, ho, hcd⟩ := T.fn
  obtain ⟨nm, q, N, bs, bm, sn, sub, ab, col, dd, k0, k1, k2, k3, k5, hC, hbm⟩ := T.cls
  have hcl : clsIn K C = some { name := nm, bases := bs, mro := .ref C :: bm, ns := N, qualname := q, hasDict := true, slotNames := sn, subclasses := sub, abstract := ab, collection := col, hasDel := false } := by unfold clsIn; rw [hC] <;> rfl
  refine Att.call_fn (binds := [("self", .ref x), ("case", v)]) X hlim ho hcd hroom (BindsTo.of_eq (by first | rfl | with_unfolding_all rfl)) (by first | rfl | decide | with_unfolding_all rfl) (fun s₁ IC => ?_) rfl rfl rfl
  obtain ⟨h₁, tk₁, rfl⟩ := IC.toInCall.same
  have k : ∀ b o, s.heap.get? b = some o → h₁.get? b = some o := IC.toInCall.keep
  have hn := IC.toInCall.ns
  have hxL : s.heap.objs.size ≠ x := Nat.ne_of_gt (Heap.lt_size hx)
  have X₁ : K.In h₁ := X.keeps k
  have hx₁ := k _ _ hx
  -- self.by = by
  show wpAny _ _ (execs _ _) _ _ _
  refine wpAny_execs_cons (plainObj_wpAny_Assign_Attribute ?_)
  refine ldC (v := v) hn (by first | rfl | with_unfolding_all rfl | kernel_rfl) (ldC (v := .ref x) hn (by first | rfl | with_unfolding_all rfl | kernel_rfl) ?_)
  refine set_plain X₁ (ox := excO C t0) (od := none) ⟨hx₁, rfl, rfl, trivial⟩ T.sa ?_
  refine exc_osa X₁ hx₁ hcl (show refsVE (.ref C :: bm) = true from hbm) rfl T.noN (fun h₃ tk₃ dx k₃ dn dne hx₃ hn₃ => ?_)
  show wpAny _ _ (execs _ _) _ _ _
  have z : s.heap.objs.size < h₁.objs.size := hn.lt
  exact wpAny_execs_nil (hq h₃ tk₃ dx ⟨fun b o hb e => k₃ b o hb (k b o e), hx₃, Nat.le_of_lt (Nat.lt_of_lt_of_le z dn), dne, hn₃⟩)
theorem low_made (T : LowTxt K mg C fI) {v : Value} (X : K.In s.heap) (hlim : s.heap.NoLimit) (hroom : A.depth + 1 < recursionLimit)
    (hq : ∀ h' tk e d, OwnMade s.heap h' e C d v → R (.ok (.ret (.ref e))) { s with heap := h', toks := tk }) :
    codeAny (model prog w) A (.call (.ref C) ⟨[v], []⟩) R s := by
  obtain ⟨nm, q, N, bs, bm, sn, sub, ab, col, dd, k0, k1, k2, k3, k5, hC, hbm⟩ := T.cls
  obtain ⟨hp, g, dr, tk, os⟩ := s
  have k : ∀ b o, hp.get? b = some o → ((hp.push (kdv_tup [v])).push (excO C hp.objs.size)).get? b = some o := fun b o e => Heap.get?_push_of_some _ (Heap.get?_push_of_some _ e)
  have hget : ((hp.push (kdv_tup [v])).push (excO C hp.objs.size)).get? (hp.objs.size + 1) = some (excO C hp.objs.size) := by heap_get
  have hnx : K.lookup (hp.objs.size + 1) = none := by
    cases e : K.lookup (hp.objs.size + 1) with
    | none => rfl
    | some o =>
      have z : hp.get? (hp.objs.size + 1) = some o := X _ _ e
      exact absurd (Nat.lt_of_succ_lt (Heap.lt_size z)) (Nat.lt_irrefl _)
  refine call_own F.excBase_ValueError (fun X => refsVE_contains X bm hbm) (X _ _ hC) (looks_findIn X T.iC) (fun self => bind_fn X self T.tC) (one_size v) ?_
  refine low_init (s := ⟨(hp.push (kdv_tup [v])).push (excO C hp.objs.size), g, dr, tk, os⟩) T (X.keeps k) (hlim.keeps k) hget hnx ?_ fun h' tk' dx ⟨k', hx, dn, dne, hns⟩ => ?_
  · show A.depth + 1 < recursionLimit
    exact hroom
  · have old : ∀ b o, hp.get? b = some o → h'.get? b = some o := fun b o e => k' b o (Nat.ne_of_lt (Nat.lt_succ_of_lt (Heap.lt_size e))) (k b o e)
    have z : hp.objs.size + 1 + 1 ≤ dx := by
      first
        | (simpa only [Heap.size_push] using dn)
        | exact dn
        | (have q := dn; rw [Heap.size_push, Heap.size_push] at q; exact q)
    exact ⟨rfl, hq h' tk' (hp.objs.size + 1) dx ⟨old, Nat.le_succ _, ⟨_, _, hx, rfl, rfl, rfl, rfl⟩, Nat.le_trans (Nat.le_trans (Nat.le_succ _) (Nat.le_succ _)) z, dne, hns⟩⟩
end
end LowY
end PySem
namespace L2
open PySem PySem.Spec PyProof.Rows
theorem relO_lowY {v : V} {v' : Value} (r : RelV v v') (f : Str) : RelO (List.lookup f [(("case" : Str), v)]) (if f = "case" then some v' else none) := by
  by_cases hw : f = "case"
  · subst hw
    rw [if_pos rfl]
    have q : List.lookup ("case" : Str) [(("case" : Str), v)] = some v := by simp [List.lookup]
    rw [q]
    exact r
  · rw [if_neg hw]
    have qw : (f == ("case" : Str)) = false := by simpa using hw
    have q2 : List.lookup f [(("case" : Str), v)] = none := by simp [List.lookup, qw]
    rw [q2]
    trivial
section
variable {X : Cx} {C fI : Addr}
/-- Low(e) -/
def tMkLowY (C : Addr) (ta : TA) : St → Hp → XK → Prop := fun σ H Q => ta σ H fun vs H1 => ∃ v, vs = [v] ∧ ∀ d, H1 d = none → Q (.ref C) (some d) (upd H1 d (.xd [(("case" : Str), v)]))
theorem pmk_lowY {a : Expr} {ta : TA} {p pos : Pos} {k : Nat} (T : PySem.LowY.LowTxt X.K X.mg C fI) (hr : Room k X.A) (ha : PA X [a] ta) (hg : Gl X "BadCase" := by rfl)
    (he : starEach (a :: []) X.env = (false, eval a X.env) :: starEach [] X.env := by rfl) (hpl : (backTo pos (starEach [] X.env)).any (·.1) = false := by rfl) :
    PMk X (.Call (.Name "BadCase" p) [a] [] pos) (tMkLowY C ta) := by
  intro pins s σ H Q I h
  refine wpAny_Call_Name_kw (ld_glob I hg T.gC ?_)
  refine PySem.W.callWith_K (h₀ := X.base) I.ok.mod.kin T.kC (thn (ha.run pos pins s σ H _ I h) fun us s1 hh => ?_) he hpl
  obtain ⟨vs, H1, I1, r1, v, ev, q1⟩ := hh
  subst ev
  refine ⟨I1.kIn, ?_⟩
  cases r1 with
  | cons rv rn =>
    rename_i v' us'
    cases rn
    show wpAny _ _ (call (.ref C) [v']) _ _ _
    have hlim := I1.nolimit
    obtain ⟨hp, g, dr, tk, os⟩ := s1
    refine wpAny_call (PySem.LowY.low_made T I1.kIn hlim (by have := hr.dp; omega) fun h' tk' e d M => ?_)
    show MkP X pins σ Q (.ref e) ⟨h', g, dr, tk', os⟩
    obtain ⟨oe, fv, hoe, hc, hd, hdat, h1⟩ := M.obj
    have hns := M.ns
    obtain ⟨G', g1, g2⟩ := restrict h' fun b => decide (b ≠ e)
    have gk : ∀ b, b ≠ e → G'.get? b = h'.get? b := fun b hb => g1 b (decide_eq_true hb)
    have ge : G'.get? e = none := g2 e (by simp)
    have old : ∀ b o, hp.get? b = some o → G'.get? b = some o := fun b o q => (gk b (Nat.ne_of_lt (Nat.lt_of_lt_of_le (Heap.lt_size q) M.new))).trans (M.keep b o q)
    have ob : ObjOk X.prog X.w (upd H1 d (.xd [(("case" : Str), v)])) G' d (.xd [(("case" : Str), v)]) :=
      ⟨_, hns.at (fun o q => (gk d M.dne).trans q), fun f => relO_lowY rv f⟩
    have J : Inv X pins σ (upd H1 d (.xd [(("case" : Str), v)])) ⟨G', g, dr, tk', os⟩ := I1.laid (t' := tk') old M.dbig ob
    refine ⟨e, oe, fv, ⟨G', g, dr, tk', os⟩, _, .ref C, some d, rfl, J, fun b o q => ?_, ge, hoe, ⟨hc, hd⟩, hdat, h1, ?_, rfl, I1.bare, raises_own T.exC T.tyC, q1 d (I1.hok.fresh M.dbig)⟩
    · by_cases hb : b = e
      · have q' : G'.get? b = some o := q
        rw [hb, ge] at q'; cases q'
      · exact (gk b hb).symm.trans q
    · rw [upd_ne (Ne.symm M.dne)]
      exact I1.hok.fresh M.new
/-- raise Low(e) -/
def tRaiseLowY (C : Addr) (W : WX) (ta : TA) : TS := fun _ σ H => tMkLowY C ta σ H fun cls d H' => W cls d σ H'
theorem ps_raiseLowY {a : Expr} {ta : TA} {W : WX} {p pos pos2 : Pos} {k : Nat} (hc : X.calm = true) (T : PySem.LowY.LowTxt X.K X.mg C fI) (hr : Room k X.A) (tk : Takes X W) (ha : PA X [a] ta) (hg : Gl X "BadCase" := by rfl)
    (he : starEach (a :: []) X.env = (false, eval a X.env) :: starEach [] X.env := by rfl) (hpl : (backTo pos (starEach [] X.env)).any (·.1) = false := by rfl) :
    PS X (.Raise (some (.Call (.Name "BadCase" p) [a] [] pos)) none pos2) (tRaiseLowY C W ta) := ps_raise hc tk (pmk_lowY T hr ha hg he hpl)
/-- low.by, low the exception that the suite holds (at a; its class cls, its dict d) -/
def tByLowY (C : Addr) (a : Addr) (cls : Value) (d : Option Addr) (te : TE) : TE := fun σ H Q => te σ H fun x H1 => x = .ref a ∧ cls = .ref C ∧ ∃ (dd : Addr) (v : V), d = some dd ∧ H1 dd = some (.xd [(("case" : Str), v)]) ∧ Q v H1
theorem pe_byLowY {a : Addr} {oe : Obj} {cls : Value} {d : Option Addr} {pn : List (Addr × Obj)} {e : Expr} {te : TE} {pos : Pos} (T : PySem.LowY.LowTxt X.K X.mg C fI) (hz : Zc cls d oe) (hf : ∃ vs, oe.data = .fields vs) (he : PE (X.suite a ((a, oe) :: pn)) e te)
    (hb : attributeBase e "case" X.env (eval e X.env) = eval e X.env := by rfl) :
    PE (X.suite a ((a, oe) :: pn)) (.Attribute e "case" pos) (tByLowY C a cls d te) := by
  refine ⟨fun pins s σ H Q I h => ?_⟩
  refine attr_of hb (thn (he.run pins s σ H _ I h) fun u s1 hh => ?_)
  obtain ⟨x, H1, I1, rx, ex, ec, dd, v, ed, ea, q⟩ := hh
  subst ex
  obtain rfl : u = Value.ref a := rx
  subst ec
  subst ed
  obtain ⟨ha, _⟩ := I1.pin (a, oe) (List.mem_append_left _ List.mem_cons_self)
  obtain ⟨vs, hd⟩ := hf
  have hx : ObjOk X.prog X.w H1 s1.heap dd (.xd [(("case" : Str), v)]) := I1.hok dd _ ea
  obtain ⟨mA, hns, hr⟩ := hx
  obtain ⟨od, ho, hl⟩ := lookIn_ns hns
  have l : List.lookup ("case" : Str) [(("case" : Str), v)] = some v := by simp [List.lookup]
  obtain ⟨u, hu, ru⟩ := RelO.some_of (v := v) (o := mA "case") (by rw [← l]; exact hr "case")
  have J : PySem.W.InstAt s1.heap a oe C (some od) := ⟨ha, hz.1, by unfold PySem.W.notCls; rw [hd] <;> rfl, by rw [hz.2]; exact ho⟩
  exact HandSPX.exc_get I1.kIn J T.ga T.gg T.exC (PySem.W.findObj_own T.hdC T.noN rfl (by rw [hl, hu])) (handed_of ru) ⟨v, H1, I1.tok _, ru, q⟩
end
end L2


/-! An own error with one field, NoLay, as the guide's skeleton on own errors gives it. -/
namespace PySem
namespace LowZ
open PySem.W PySem.Calls PyProof.Rows PySem.HandSPX
/-! ### the text of __init__ -/
def iA (p1 p2 : Pos) : Arguments := { posonlyargs := [], args := [{ arg := "self", annotation := none, pos := p1 }, { arg := "wanted", annotation := none, pos := p2 }], vararg := none, kwonlyargs := [], kw_defaults := [], kwarg := none, defaults := [] }
def iB (q1 q2 q3 q4 : Pos) : List Stmt := [.Assign [.Attribute (.Name "self" q1) "wanted" q2] (.Name "wanted" q3) q4]
def iS : Scope := { kind := .function, names := [(PySem.Str.ofString "self", .local), (PySem.Str.ofString "wanted", .local)], isGenerator := false, isCoroutine := false, more := [] }
/-- what the written part says of Low, at C, and of its __init__, at fI -/
structure LowTxt (K : Frag) (mg : Str → Option Value) (C fI : Addr) : Prop where
  gC : mg "NoLay" = some (.ref C)
  cls : ∃ nm q N bs bm sn sub ab col dd k0 k1 k2 k3 k5, K.lookup C = some (excClassObj nm q C N bs bm true sn sub ab col dd k0 k1 k2 k3 k5 "ValueError.__new__") ∧ refsVE bm = true
  sa : findIn K (.ref C) "__setattr__" = some (some (.builtin "object.__setattr__"))
  ga : findIn K (.ref C) "__getattribute__" = some (some (.builtin "BaseException.__getattribute__"))
  gg : findIn K (.ref C) "__getattr__" = some none
  noN : findIn K (.ref C) "wanted" = some none
  iC : findIn K (.ref C) "__init__" = some (some (.ref fI))
  tC : typeIn K (.ref fI) = some (.type "function")
  kC : keepIn K (.ref C) = true
  exC : subIn K (.ref C) (.type "BaseException") = some true
  tyC : typeIn K (.ref C) = some (.type "type")
  hdC : hasDictIn K C = true
  te : exmOne K (.ref C) (.ref C) = some true
  fn : ∃ (oc : Value) (od : Option Addr) (doc pm : Value) (an : Option Addr) (cdv ct : Value) (osl : Array (Option Value)) (p1 p2 q1 q2 q3 q4 : Pos),
    K.lookup fI = some ⟨oc, od, .func (fnOf "__init__" "NoLay.__init__" (iA p1 p2) (iB q1 q2 q3 q4) iS .none .none doc pm an cdv ct), osl⟩ ∧ codeIn K cdv "NoLay.__init__" = true
theorem one_size (v : Value) : [v].length ≤ sizeLine := by
  rw [sizeLine_eq]
  exact (by decide : 1 ≤ 16777216)
theorem kept_but {K : Frag} {h h' : Heap} {x : Addr} (X : K.In h) (hx : K.lookup x = none) (k : ∀ b o, b ≠ x → h.get? b = some o → h'.get? b = some o) : K.In h' := fun a o e =>
  k a o (fun z => by rw [z, hx] at e; cases e) (X a o e)
theorem ldC {M : Model} {s : Shared} {name : Str} {scope : Scope} {L a : Addr} {cd : Value} {m : Str → Option Value} {x : Str} {pos : Pos} {v : Value} {Q : Value → Shared → Prop} {A : Around} {E : Value → Shared → Prop} (hn : s.heap.Ns L m) (hv : m x = some v) (h : Q v s)
    (hk : scope.kind = .function := by rfl) (hl : (envOfC name scope L a cd).kindOf x = some .local := by rfl) (hd : (x == ("__debug__" : Str)) = false := by decide) :
    wpAny M A (eval (.Name x pos) (envOfC name scope L a cd)) Q E s := wpAny_Name (wpAny_loadName_local hk hl hn hv h) hd
/-- what __init__ leaves of a fresh exception at x -/
structure InitEnd (h h' : Heap) (x C dx t1 : Addr) (v : Value) : Prop where
  keep : ∀ b o, b ≠ x → h.get? b = some o → h'.get? b = some o
  obj : h'.get? x = some { cls := .ref C, dict := some dx, data := .fields #[.ref t1, .none, .none, .none, .bool false, .none] }
  dbig : h.objs.size ≤ dx
  dne : dx ≠ x
  ns : h'.Ns1 dx (fun y => if y = "wanted" then some v else none)
/-- a made Low -/
structure OwnMade (h h' : Heap) (e C d : Addr) (v : Value) : Prop where
  keep : ∀ b o, h.get? b = some o → h'.get? b = some o
  new : h.objs.size ≤ e
  obj : ∃ oe vs, h'.get? e = some oe ∧ oe.cls = .ref C ∧ oe.dict = some d ∧ oe.data = .fields vs ∧ vs[1]? = some .none
  dbig : h.objs.size ≤ d
  dne : d ≠ e
  ns : h'.Ns1 d (fun y => if y = "wanted" then some v else none)
section
variable {prog : Program} {w : World} {A : Around} {E : Value → Shared → Prop} {R : Result → Shared → Prop} {s : Shared} {K : Frag} {mg : Str → Option Value} {C fI : Addr}
theorem low_init (T : LowTxt K mg C fI) {x t0 : Addr} {v : Value} (X : K.In s.heap) (hlim : s.heap.NoLimit) (hx : s.heap.get? x = some (excO C t0)) (hnx : K.lookup x = none) (hroom : A.depth < recursionLimit)
    (hq : ∀ h' tk dx, InitEnd s.heap h' x C dx t0 v → R (.ok (.ret .none)) { s with heap := h', toks := tk }) :
    codeAny (model prog w) A (.call (.ref fI) ⟨[.ref x, v], []⟩) R s := by
  obtain ⟨oc, od, doc, pm, an, cdv, ct, osl, p1, p2, q1, q2, q3, q4, ho, hcd⟩ := T.fn
  obtain ⟨nm, q, N, bs, bm, sn, sub, ab, col, dd, k0, k1, k2, k3, k5, hC, hbm⟩ := T.cls
  have hcl : clsIn K C = some { name := nm, bases := bs, mro := .ref C :: bm, ns := N, qualname := q, hasDict := true, slotNames := sn, subclasses := sub, abstract := ab, collection := col, hasDel := false } := by unfold clsIn; rw [hC] <;> rfl
  refine Att.call_fn (binds := [("self", .ref x), ("wanted", v)]) X hlim ho hcd hroom (BindsTo.of_eq (by first | rfl | with_unfolding_all rfl)) (by first | rfl | decide | with_unfolding_all rfl) (fun s₁ IC => ?_) rfl rfl rfl
  obtain ⟨h₁, tk₁, rfl⟩ := IC.toInCall.same
  have k : ∀ b o, s.heap.get? b = some o → h₁.get? b = some o := IC.toInCall.keep
  have hn := IC.toInCall.ns
  have hxL : s.heap.objs.size ≠ x := Nat.ne_of_gt (Heap.lt_size hx)
  have X₁ : K.In h₁ := X.keeps k
  have hx₁ := k _ _ hx
  -- self.by = by
  show wpAny _ _ (execs _ _) _ _ _
  refine wpAny_execs_cons (plainObj_wpAny_Assign_Attribute ?_)
  refine ldC (v := v) hn (by first | rfl | with_unfolding_all rfl | kernel_rfl) (ldC (v := .ref x) hn (by first | rfl | with_unfolding_all rfl | kernel_rfl) ?_)
  refine set_plain X₁ (ox := excO C t0) (od := none) ⟨hx₁, rfl, rfl, trivial⟩ T.sa ?_
  refine exc_osa X₁ hx₁ hcl (show refsVE (.ref C :: bm) = true from hbm) rfl T.noN (fun h₃ tk₃ dx k₃ dn dne hx₃ hn₃ => ?_)
  show wpAny _ _ (execs _ _) _ _ _
  have z : s.heap.objs.size < h₁.objs.size := hn.lt
  exact wpAny_execs_nil (hq h₃ tk₃ dx ⟨fun b o hb e => k₃ b o hb (k b o e), hx₃, Nat.le_of_lt (Nat.lt_of_lt_of_le z dn), dne, hn₃⟩)
theorem low_made (T : LowTxt K mg C fI) {v : Value} (X : K.In s.heap) (hlim : s.heap.NoLimit) (hroom : A.depth + 1 < recursionLimit)
    (hq : ∀ h' tk e d, OwnMade s.heap h' e C d v → R (.ok (.ret (.ref e))) { s with heap := h', toks := tk }) :
    codeAny (model prog w) A (.call (.ref C) ⟨[v], []⟩) R s := by
  obtain ⟨nm, q, N, bs, bm, sn, sub, ab, col, dd, k0, k1, k2, k3, k5, hC, hbm⟩ := T.cls
  obtain ⟨hp, g, dr, tk, os⟩ := s
  have k : ∀ b o, hp.get? b = some o → ((hp.push (kdv_tup [v])).push (excO C hp.objs.size)).get? b = some o := fun b o e => Heap.get?_push_of_some _ (Heap.get?_push_of_some _ e)
  have hget : ((hp.push (kdv_tup [v])).push (excO C hp.objs.size)).get? (hp.objs.size + 1) = some (excO C hp.objs.size) := by heap_get
  have hnx : K.lookup (hp.objs.size + 1) = none := by
    cases e : K.lookup (hp.objs.size + 1) with
    | none => rfl
    | some o =>
      have z : hp.get? (hp.objs.size + 1) = some o := X _ _ e
      exact absurd (Nat.lt_of_succ_lt (Heap.lt_size z)) (Nat.lt_irrefl _)
  refine call_own F.excBase_ValueError (fun X => refsVE_contains X bm hbm) (X _ _ hC) (looks_findIn X T.iC) (fun self => bind_fn X self T.tC) (one_size v) ?_
  refine low_init (s := ⟨(hp.push (kdv_tup [v])).push (excO C hp.objs.size), g, dr, tk, os⟩) T (X.keeps k) (hlim.keeps k) hget hnx ?_ fun h' tk' dx ⟨k', hx, dn, dne, hns⟩ => ?_
  · show A.depth + 1 < recursionLimit
    exact hroom
  · have old : ∀ b o, hp.get? b = some o → h'.get? b = some o := fun b o e => k' b o (Nat.ne_of_lt (Nat.lt_succ_of_lt (Heap.lt_size e))) (k b o e)
    have z : hp.objs.size + 1 + 1 ≤ dx := by
      first
        | (simpa only [Heap.size_push] using dn)
        | exact dn
        | (have q := dn; rw [Heap.size_push, Heap.size_push] at q; exact q)
    exact ⟨rfl, hq h' tk' (hp.objs.size + 1) dx ⟨old, Nat.le_succ _, ⟨_, _, hx, rfl, rfl, rfl, rfl⟩, Nat.le_trans (Nat.le_trans (Nat.le_succ _) (Nat.le_succ _)) z, dne, hns⟩⟩
end
end LowZ
end PySem
namespace L2
open PySem PySem.Spec PyProof.Rows
theorem relO_lowZ {v : V} {v' : Value} (r : RelV v v') (f : Str) : RelO (List.lookup f [(("wanted" : Str), v)]) (if f = "wanted" then some v' else none) := by
  by_cases hw : f = "wanted"
  · subst hw
    rw [if_pos rfl]
    have q : List.lookup ("wanted" : Str) [(("wanted" : Str), v)] = some v := by simp [List.lookup]
    rw [q]
    exact r
  · rw [if_neg hw]
    have qw : (f == ("wanted" : Str)) = false := by simpa using hw
    have q2 : List.lookup f [(("wanted" : Str), v)] = none := by simp [List.lookup, qw]
    rw [q2]
    trivial
section
variable {X : Cx} {C fI : Addr}
/-- Low(e) -/
def tMkLowZ (C : Addr) (ta : TA) : St → Hp → XK → Prop := fun σ H Q => ta σ H fun vs H1 => ∃ v, vs = [v] ∧ ∀ d, H1 d = none → Q (.ref C) (some d) (upd H1 d (.xd [(("wanted" : Str), v)]))
theorem pmk_lowZ {a : Expr} {ta : TA} {p pos : Pos} {k : Nat} (T : PySem.LowZ.LowTxt X.K X.mg C fI) (hr : Room k X.A) (ha : PA X [a] ta) (hg : Gl X "NoLay" := by rfl)
    (he : starEach (a :: []) X.env = (false, eval a X.env) :: starEach [] X.env := by rfl) (hpl : (backTo pos (starEach [] X.env)).any (·.1) = false := by rfl) :
    PMk X (.Call (.Name "NoLay" p) [a] [] pos) (tMkLowZ C ta) := by
  intro pins s σ H Q I h
  refine wpAny_Call_Name_kw (ld_glob I hg T.gC ?_)
  refine PySem.W.callWith_K (h₀ := X.base) I.ok.mod.kin T.kC (thn (ha.run pos pins s σ H _ I h) fun us s1 hh => ?_) he hpl
  obtain ⟨vs, H1, I1, r1, v, ev, q1⟩ := hh
  subst ev
  refine ⟨I1.kIn, ?_⟩
  cases r1 with
  | cons rv rn =>
    rename_i v' us'
    cases rn
    show wpAny _ _ (call (.ref C) [v']) _ _ _
    have hlim := I1.nolimit
    obtain ⟨hp, g, dr, tk, os⟩ := s1
    refine wpAny_call (PySem.LowZ.low_made T I1.kIn hlim (by have := hr.dp; omega) fun h' tk' e d M => ?_)
    show MkP X pins σ Q (.ref e) ⟨h', g, dr, tk', os⟩
    obtain ⟨oe, fv, hoe, hc, hd, hdat, h1⟩ := M.obj
    have hns := M.ns
    obtain ⟨G', g1, g2⟩ := restrict h' fun b => decide (b ≠ e)
    have gk : ∀ b, b ≠ e → G'.get? b = h'.get? b := fun b hb => g1 b (decide_eq_true hb)
    have ge : G'.get? e = none := g2 e (by simp)
    have old : ∀ b o, hp.get? b = some o → G'.get? b = some o := fun b o q => (gk b (Nat.ne_of_lt (Nat.lt_of_lt_of_le (Heap.lt_size q) M.new))).trans (M.keep b o q)
    have ob : ObjOk X.prog X.w (upd H1 d (.xd [(("wanted" : Str), v)])) G' d (.xd [(("wanted" : Str), v)]) :=
      ⟨_, hns.at (fun o q => (gk d M.dne).trans q), fun f => relO_lowZ rv f⟩
    have J : Inv X pins σ (upd H1 d (.xd [(("wanted" : Str), v)])) ⟨G', g, dr, tk', os⟩ := I1.laid (t' := tk') old M.dbig ob
    refine ⟨e, oe, fv, ⟨G', g, dr, tk', os⟩, _, .ref C, some d, rfl, J, fun b o q => ?_, ge, hoe, ⟨hc, hd⟩, hdat, h1, ?_, rfl, I1.bare, raises_own T.exC T.tyC, q1 d (I1.hok.fresh M.dbig)⟩
    · by_cases hb : b = e
      · have q' : G'.get? b = some o := q
        rw [hb, ge] at q'; cases q'
      · exact (gk b hb).symm.trans q
    · rw [upd_ne (Ne.symm M.dne)]
      exact I1.hok.fresh M.new
/-- raise Low(e) -/
def tRaiseLowZ (C : Addr) (W : WX) (ta : TA) : TS := fun _ σ H => tMkLowZ C ta σ H fun cls d H' => W cls d σ H'
theorem ps_raiseLowZ {a : Expr} {ta : TA} {W : WX} {p pos pos2 : Pos} {k : Nat} (hc : X.calm = true) (T : PySem.LowZ.LowTxt X.K X.mg C fI) (hr : Room k X.A) (tk : Takes X W) (ha : PA X [a] ta) (hg : Gl X "NoLay" := by rfl)
    (he : starEach (a :: []) X.env = (false, eval a X.env) :: starEach [] X.env := by rfl) (hpl : (backTo pos (starEach [] X.env)).any (·.1) = false := by rfl) :
    PS X (.Raise (some (.Call (.Name "NoLay" p) [a] [] pos)) none pos2) (tRaiseLowZ C W ta) := ps_raise hc tk (pmk_lowZ T hr ha hg he hpl)
/-- low.by, low the exception that the suite holds (at a; its class cls, its dict d) -/
def tByLowZ (C : Addr) (a : Addr) (cls : Value) (d : Option Addr) (te : TE) : TE := fun σ H Q => te σ H fun x H1 => x = .ref a ∧ cls = .ref C ∧ ∃ (dd : Addr) (v : V), d = some dd ∧ H1 dd = some (.xd [(("wanted" : Str), v)]) ∧ Q v H1
theorem pe_byLowZ {a : Addr} {oe : Obj} {cls : Value} {d : Option Addr} {pn : List (Addr × Obj)} {e : Expr} {te : TE} {pos : Pos} (T : PySem.LowZ.LowTxt X.K X.mg C fI) (hz : Zc cls d oe) (hf : ∃ vs, oe.data = .fields vs) (he : PE (X.suite a ((a, oe) :: pn)) e te)
    (hb : attributeBase e "wanted" X.env (eval e X.env) = eval e X.env := by rfl) :
    PE (X.suite a ((a, oe) :: pn)) (.Attribute e "wanted" pos) (tByLowZ C a cls d te) := by
  refine ⟨fun pins s σ H Q I h => ?_⟩
  refine attr_of hb (thn (he.run pins s σ H _ I h) fun u s1 hh => ?_)
  obtain ⟨x, H1, I1, rx, ex, ec, dd, v, ed, ea, q⟩ := hh
  subst ex
  obtain rfl : u = Value.ref a := rx
  subst ec
  subst ed
  obtain ⟨ha, _⟩ := I1.pin (a, oe) (List.mem_append_left _ List.mem_cons_self)
  obtain ⟨vs, hd⟩ := hf
  have hx : ObjOk X.prog X.w H1 s1.heap dd (.xd [(("wanted" : Str), v)]) := I1.hok dd _ ea
  obtain ⟨mA, hns, hr⟩ := hx
  obtain ⟨od, ho, hl⟩ := lookIn_ns hns
  have l : List.lookup ("wanted" : Str) [(("wanted" : Str), v)] = some v := by simp [List.lookup]
  obtain ⟨u, hu, ru⟩ := RelO.some_of (v := v) (o := mA "wanted") (by rw [← l]; exact hr "wanted")
  have J : PySem.W.InstAt s1.heap a oe C (some od) := ⟨ha, hz.1, by unfold PySem.W.notCls; rw [hd] <;> rfl, by rw [hz.2]; exact ho⟩
  exact HandSPX.exc_get I1.kIn J T.ga T.gg T.exC (PySem.W.findObj_own T.hdC T.noN rfl (by rw [hl, hu])) (handed_of ru) ⟨v, H1, I1.tok _, ru, q⟩
end
end L2


/-! isinstance of a caught error with a dict of its own; == over data without dicts; text * int. -/
namespace Xe
open PySem PySem.Spec PyProof.Rows L2
/-- isinstance(e, c), e the error of the class at C that the suite holds, with its own dict -/
def rIsD (K : PySem.W.Frag) (C a : Addr) (cls : Value) (d : Option Addr) : List V → Hp → VK → Prop := fun xs H Q => ∃ (c : V) (cv : Value) (b : Bool) (dd : Addr) (fs : List (Str × V)), xs = [.ref a, c] ∧ cls = .ref C ∧ d = some dd ∧ H dd = some (.xd fs) ∧ (∀ u, RelV c u → u = cv) ∧
  PySem.W.kitOne K (.ref C) cv = some b ∧ Q (.bl b) H
theorem call_isD {X : Cx} {a C : Addr} {oe : Obj} {cls : Value} {d : Option Addr} {pn : List (Addr × Obj)} (EC : ExcC X.K C) (hcl : (PySem.W.clsIn X.K C).isSome = true) (hz : Zc cls d oe) (hf : ∃ vs, oe.data = .fields vs) : CallR (X.suite a ((a, oe) :: pn)) (.builtin "isinstance") (rIsD X.K C a cls d) := by
  intro pins s σ H xs us Q I r h
  obtain ⟨c, cv, b, dd, fs, rfl, ec, ed, hH, hcv, e, q⟩ := h
  subst ec ed
  cases r with
  | cons rx rr =>
    cases rr with
    | cons rt rr =>
      cases rr
      cases rx
      have ec := hcv _ rt
      subst ec
      obtain ⟨hget, _⟩ := I.pin (a, oe) (List.mem_append.mpr (.inl List.mem_cons_self))
      obtain ⟨vs, hd⟩ := hf
      have hx : ObjOk X.prog X.w H s.heap dd (.xd fs) := I.hok dd _ hH
      obtain ⟨mA, hns, hr⟩ := hx
      obtain ⟨od, ho, hl⟩ := lookIn_ns hns
      have J : PySem.W.InstAt s.heap a oe C (some od) := ⟨hget, hz.1, by unfold PySem.W.notCls; rw [hd] <;> rfl, by rw [hz.2]; exact ho⟩
      exact PySem.W.kia_one (PySem.W.kitx_exc hcl EC.hg EC.hk EC.hs EC.ha EC.hn EC.ht EC.hm) I.kIn J e (fun z => nomatch z) fun tk => ⟨.bl b, H, I.kept (t' := tk) fun _ _ z => z, rfl, q⟩
/-- isinstance(e, (c1, c2)) -/
def rIsDT (K : PySem.W.Frag) (C a : Addr) (cls : Value) (d : Option Addr) : List V → Hp → VK → Prop := fun xs H Q => ∃ (tp : Addr) (cs : List V) (us : List Value) (b : Bool) (dd : Addr) (fs : List (Str × V)), xs = [.ref a, .ref tp] ∧ cls = .ref C ∧ d = some dd ∧ H dd = some (.xd fs) ∧ H tp = some (.tup cs) ∧ Paired ClsV cs us ∧
  PySem.W.kitAny K (.ref C) us = some b ∧ Q (.bl b) H
theorem call_isDT {X : Cx} {a C : Addr} {oe : Obj} {cls : Value} {d : Option Addr} {pn : List (Addr × Obj)} (EC : ExcC X.K C) (hcl : (PySem.W.clsIn X.K C).isSome = true) (hz : Zc cls d oe) (hf : ∃ vs, oe.data = .fields vs) : CallR (X.suite a ((a, oe) :: pn)) (.builtin "isinstance") (rIsDT X.K C a cls d) := by
  intro pins s σ H xs us Q I r h
  obtain ⟨tp, cs, ws, b, dd, fs, rfl, ec, ed, hH, hT, k, e, q⟩ := h
  subst ec ed
  obtain ⟨u1, u2, rfl, r1, r2⟩ := vals2 r
  cases (show u1 = Value.ref a from r1)
  cases (show u2 = Value.ref tp from r2)
  obtain ⟨hget, _⟩ := I.pin (a, oe) (List.mem_append.mpr (.inl List.mem_cons_self))
  obtain ⟨vs, hd⟩ := hf
  have hx : ObjOk X.prog X.w H s.heap dd (.xd fs) := I.hok dd _ hH
  obtain ⟨mA, hns, hr⟩ := hx
  obtain ⟨od, ho, hl⟩ := lookIn_ns hns
  have J : PySem.W.InstAt s.heap a oe C (some od) := ⟨hget, hz.1, by unfold PySem.W.notCls; rw [hd] <;> rfl, by rw [hz.2]; exact ho⟩
  obtain ⟨_, its, rv, o, h1, h2, n, h3⟩ := (show ObjOk X.prog X.w H s.heap tp (.tup cs) from I.hok tp _ hT)
  have e3 := ClsV.all k rv
  subst e3
  obtain ⟨oc, od2, dt, sl⟩ := o
  simp only at h2 h3
  subst h2 h3
  exact PySem.W.kia_tup (PySem.W.kitx_exc hcl EC.hg EC.hk EC.hs EC.ha EC.hn EC.ht EC.hm) I.kIn J h1 e (fun z => nomatch z) fun tk => ⟨.bl b, H, I.kept (t' := tk) fun _ _ z => z, rfl, q⟩
section
variable {X : Cx}
/-- None != None, (True, t) != (True, t): both answers the same -/
def rNe2 (K : PySem.W.Frag) : R2 := fun x y H Q => (x = .non ∧ y = .non ∧ Q (.bl false) H) ∨ ∃ p q t, x = .ref p ∧ y = .ref q ∧ SqT K H p [.bl true, .str t] ∧ SqT K H q [.bl true, .str t] ∧ Q (.bl false) H
theorem op_ne2 (hu : X.A.units + 64 < cLine) : OpR X (compareOp .NotEq) (rNe2 X.K) := by
  intro pins s σ H x y v u Q I rx ry h
  rcases h with ⟨rfl, rfl, q⟩ | ⟨p, q, t, rfl, rfl, hp, hq, h⟩
  · cases rx
    cases ry
    exact (PySem.SeqAt.RcNeAt.none_none (A := X.A) (s := s)) X.prog X.w X.xe _ ⟨.bl false, H, I, rfl, q⟩
  · cases rx
    cases ry
    obtain ⟨its, r1, p1, _⟩ := I.tuple hp
    obtain ⟨its2, r2, p2, _⟩ := I.tuple hq
    cases r1 with
    | cons a1 b1 =>
    cases b1 with
    | cons a2 b2 =>
    cases b2
    cases r2 with
    | cons c1 d1 =>
    cases d1 with
    | cons c2 d2 =>
    cases d2
    cases a1
    cases c1
    obtain ⟨k1, rfl⟩ := a2
    obtain ⟨k2, rfl⟩ := c2
    have e := PySem.SeqAt.RcNeAt.tuples (A := X.A) (s := s) (e := fun _ => true) p1 p2 (by omega) (fun j h1 h2 => by
      have hj : j = 0 ∨ j = 1 := by
        have : j < 2 := h1
        omega
      rcases hj with rfl | rfl
      · have := PySem.SeqAt.EqAt.bool_bool (A := X.A.in1) (s := s) true true
        simpa using this
      · have := PySem.SeqAt.EqAt.str_str (A := X.A.in1) (s := s) t k1 t k2
        simpa using this)
    exact e X.prog X.w X.xe _ ⟨.bl false, H, I, rfl, h⟩
/-- == of data without dicts -/
def rEqP (K : PySem.W.Frag) : R2 := fun x y H Q => ∃ d e, Dp K H x d ∧ Dp K H y e ∧ d.plain = true ∧ e.plain = true ∧ d.depth ≤ 60 ∧ Q (.bl (PyData.eqv d e)) H
theorem op_eqP (hu : X.A.units + 64 < cLine) : OpR X (compareOp .Eq) (rEqP X.K) := by
  intro pins s σ H x y v u Q I rx ry h
  obtain ⟨d, e, hd, he, sd, se, hz, q⟩ := h
  obtain ⟨as, r1⟩ := Dp.reads I d x v hd rx
  obtain ⟨bs, r2⟩ := Dp.reads I e y u he ry
  exact PySem.SeqAt.rcAt_plain r1 r2 sd se (by have : min d.depth e.depth ≤ d.depth := Nat.min_le_left _ _; omega) X.prog X.w X.xe _ ⟨.bl _, H, I, rfl, q⟩
/-- a sign times a number -/
def rMul1 : R2 := fun x y H Q => ∃ (c n : Nat), x = .str ⟨#[c]⟩ ∧ y = .int (n : Nat) ∧ 1 ≤ n ∧ n ≤ 1000 ∧ Q (.str ⟨(List.replicate n c).toArray⟩) H
theorem rep_fold (c : Nat) : ∀ (n : Nat) (acc : Array Nat), ((List.replicate n #[c]).foldl (· ++ ·) acc).toList = acc.toList ++ List.replicate n c
  | 0, acc => by simp
  | n + 1, acc => by
    rw [List.replicate_succ, List.foldl_cons, rep_fold c n, Array.toList_append, List.replicate_succ, List.append_assoc]
    rfl
theorem mul_one (c n : Nat) (h : 1 ≤ n) : Txt.mul ⟨#[c]⟩ ((n : Nat) : Int) = ⟨(List.replicate n c).toArray⟩ := by
  unfold Txt.mul
  rw [if_neg (by omega)]
  refine TL.ext_tl ?_
  show ((if _ then (⟨#[c]⟩ : Str) else _) : Str).cps.toList = List.replicate n c
  by_cases z : n = 1
  · subst z
    rfl
  · rw [if_neg (by
      intro q
      rcases Bool.or_eq_true_iff.mp q with q | q
      · have := eq_of_beq q
        omega
      · cases q)]
    rw [Int.toNat_natCast]
    show ((List.replicate n #[c]).foldl (· ++ ·) #[]).toList = _
    rw [rep_fold]
    rfl
theorem op_mul1 : OpR X (binaryOp .Mult) rMul1 := by
  intro pins s σ H x y v u Q I rx ry h
  obtain ⟨c, n, rfl, rfl, h1, h2, q⟩ := h
  obtain ⟨t, rfl⟩ := rx
  obtain ⟨t', rfl⟩ := ry
  refine PySem.SB.mul (x := ⟨#[c]⟩) (n := ((n : Nat) : Int)) ⟨?_, fun _ _ => ?_, fun _ _ => ?_⟩ fun t2 k => ?_
  · rw [decide_eq_false (by omega), decide_eq_false (by omega)]
    rfl
  · show ¬ ((1 : Nat) : Int) > (2 ^ 63 - 1) / ((n : Nat) : Int)
    have : (1 : Int) ≤ (2 ^ 63 - 1) / ((n : Nat) : Int) := Int.le_ediv_of_mul_le (by omega) (by omega)
    omega
  · show PySem.Builtin.Str.tooLong (1 * ((n : Nat) : Int).toNat) = false
    rw [Int.toNat_natCast, Nat.one_mul]
    have h3 : (1000 : Nat) ≤ sizeLine := by decide
    exact decide_eq_false (by omega)
  · rw [mul_one c n h1]
    exact ⟨.str _, H, I.tok _, ⟨_, rfl⟩, q⟩
end
end Xe

/-! x in a list or a tuple of data of any depth. -/
namespace Ind
open PySem PySem.Spec PyProof.Rows L2
def seqD (t : Bool) (ds : List PyData) : PyData := if t = true then .tuple ds else .list ds
def rInS (K : PySem.W.Frag) : R2 := fun x y H Q => ∃ (d : PyData) (ds : List PyData) (t : Bool), Dp K H x d ∧ Dp K H y (seqD t ds) ∧ d.canLay0 = true ∧ d.depth ≤ 60 ∧ PyData.canLayAll0 ds = true ∧ Q (.bl (ds.any fun z => PyData.eqv z d)) H
theorem op_inS {X : Cx} (hu : X.A.units + 65 < cLine) : OpR X (compareOp .In) (rInS X.K) := by
  intro pins s σ H x y v u Q I rx ry h
  obtain ⟨d, ds, t, hd, he, sd, dd, se, q⟩ := h
  obtain ⟨as, r1⟩ := Dp.reads I d x v hd rx
  have room : X.A.units + 1 + min (PyData.depthAll ds) d.depth < cLine := by
    have := Nat.min_le_right (PyData.depthAll ds) d.depth
    omega
  cases t with
  | true =>
    obtain ⟨bs, r2⟩ := Dp.reads I (.tuple ds) y u he ry
    exact SeqAt.in_tuple_reads r2 r1 se sd room ⟨.bl _, H, I, rfl, q⟩
  | false =>
    obtain ⟨bs, r2⟩ := Dp.reads I (.list ds) y u he ry
    exact SeqAt.in_list_reads r2 r1 se sd room ⟨.bl _, H, I, rfl, q⟩
theorem isD {K : PySem.W.Frag} {t : Bool} {H : Hp} {p : Addr} {xs : List V} {ds : List PyData} (h : Kd.Is K t H p xs) (g : DpAll K H xs ds) : Dp K H (.ref p) (seqD t ds) := by
  cases t with
  | true => exact .tup h g
  | false => exact .lst h g
theorem room65 {k : Nat} {A : Around} (r : Room k A) : A.units + 65 < cLine := by have := r.un; omega
end Ind
namespace Ind
open PySem PySem.Spec PyProof.Rows L2
def rNinS (K : PySem.W.Frag) : R2 := fun x y H Q => ∃ (d : PyData) (ds : List PyData) (t : Bool), Dp K H x d ∧ Dp K H y (seqD t ds) ∧ d.canLay0 = true ∧ d.depth ≤ 60 ∧ PyData.canLayAll0 ds = true ∧ Q (.bl (!ds.any fun z => PyData.eqv z d)) H
theorem op_ninS {X : Cx} (hu : X.A.units + 65 < cLine) : OpR X (compareOp .NotIn) (rNinS X.K) := by
  intro pins s σ H x y v u Q I rx ry h
  obtain ⟨d, ds, t, hd, he, sd, dd, se, q⟩ := h
  obtain ⟨as, r1⟩ := Dp.reads I d x v hd rx
  have room : X.A.units + 1 + min (PyData.depthAll ds) d.depth < cLine := by
    have := Nat.min_le_right (PyData.depthAll ds) d.depth
    omega
  cases t with
  | true =>
    obtain ⟨bs, r2⟩ := Dp.reads I (.tuple ds) y u he ry
    exact SeqAt.notIn_tuple_reads r2 r1 se sd room ⟨.bl _, H, I, rfl, q⟩
  | false =>
    obtain ⟨bs, r2⟩ := Dp.reads I (.list ds) y u he ry
    exact SeqAt.notIn_list_reads r2 r1 se sd room ⟨.bl _, H, I, rfl, q⟩
end Ind

/-! Data with lists and empty dicts that keep off some addresses; repr of such, == of a text and a dict, x in a tuple of texts, a list != []. -/
namespace De
open PySem PySem.Spec PyProof.Rows L2 Dv Wm PySem.SeqAt
mutual
inductive En (K : PySem.W.Frag) (N : Addr → Prop) (H : Hp) : V → PyData → Prop
  | non : En K N H .non .none
  | bl (b : Bool) : En K N H (.bl b) (.bool b)
  | int (i : Int) : En K N H (.int i) (.int i)
  | str (x : Str) : En K N H (.str x) (.str x)
  | tup {a : Addr} {xs : List V} {ds : List PyData} : SqT K H a xs → Ens K N H xs ds → En K N H (.ref a) (.tuple ds)
  | lst {a : Addr} {xs : List V} {ds : List PyData} : N a → H a = some (.lst xs) → Ens K N H xs ds → En K N H (.ref a) (.list ds)
  | emp {a : Addr} : N a → H a = some (.dK []) → En K N H (.ref a) (.dict [])
inductive Ens (K : PySem.W.Frag) (N : Addr → Prop) (H : Hp) : List V → List PyData → Prop
  | nil : Ens K N H [] []
  | cons {v : V} {vs : List V} {d : PyData} {ds : List PyData} : En K N H v d → Ens K N H vs ds → Ens K N H (v :: vs) (d :: ds)
end
section
variable {K : PySem.W.Frag} {N M : Addr → Prop} {H H' : Hp}
mutual
theorem En.kk (k : Kt K H H') (f : ∀ a o, N a → H a = some o → M a ∧ H' a = some o) : ∀ (d : PyData) (v : V), En K N H v d → En K M H' v d
  | .none, _, h => by cases h; exact .non
  | .bool _, _, h => by cases h; exact .bl _
  | .int _, _, h => by cases h; exact .int _
  | .str _, _, h => by cases h; exact .str _
  | .tuple ds, _, h => by
    cases h with
    | tup a b => exact .tup (k _ _ a) (Ens.kk k f ds _ b)
  | .list ds, _, h => by
    cases h with
    | lst n a b => exact .lst (f _ _ n a).1 (f _ _ n a).2 (Ens.kk k f ds _ b)
  | .dict _, _, h => by
    cases h with
    | emp n e => exact .emp (f _ _ n e).1 (f _ _ n e).2
theorem Ens.kk (k : Kt K H H') (f : ∀ a o, N a → H a = some o → M a ∧ H' a = some o) : ∀ (ds : List PyData) (vs : List V), Ens K N H vs ds → Ens K M H' vs ds
  | [], _, h => by cases h; exact .nil
  | d :: ds, _, h => by
    cases h with
    | cons a b => exact .cons (En.kk k f d _ a) (Ens.kk k f ds _ b)
end
mutual
theorem En.ofDt : ∀ (d : PyData) (v : V), Dt K H v d → En K N H v d
  | .int _, _, h => by cases h; exact .int _
  | .str _, _, h => by cases h; exact .str _
  | .tuple ds, _, h => by
    cases h with
    | tup a b => exact .tup a (Ens.ofDts ds _ b)
  | .none, _, h => by cases h
  | .bool _, _, h => by cases h
  | .list _, _, h => by cases h
  | .dict _, _, h => by cases h
theorem Ens.ofDts : ∀ (ds : List PyData) (vs : List V), Dts K H vs ds → Ens K N H vs ds
  | [], _, h => by cases h; exact .nil
  | d :: ds, _, h => by
    cases h with
    | cons a b => exact .cons (En.ofDt d _ a) (Ens.ofDts ds _ b)
end
theorem En.ks {d : PyData} {v : V} (h : En K N H v d) (s : Same H H') : En K N H' v d := En.kk (Kt.same s) (fun _ _ n e => ⟨n, s _ _ e⟩) d v h
theorem Ens.ks {ds : List PyData} {vs : List V} (h : Ens K N H vs ds) (s : Same H H') : Ens K N H' vs ds := Ens.kk (Kt.same s) (fun _ _ n e => ⟨n, s _ _ e⟩) ds vs h
theorem Ens.len : ∀ {vs : List V} {ds : List PyData}, Ens K N H vs ds → vs.length = ds.length
  | _, [], h => by cases h; rfl
  | _, d :: ds, h => by
    cases h with
    | cons a b => rw [List.length_cons, List.length_cons, Ens.len b]
theorem Ens.at : ∀ {vs : List V} {ds : List PyData} {i : Nat} {v : V}, Ens K N H vs ds → vs[i]? = some v → ∃ d, ds[i]? = some d ∧ En K N H v d
  | _, [], _, _, h, e => by cases h; simp at e
  | _, d :: ds, i, v, h, e => by
    cases h with
    | cons a b =>
      cases i with
      | zero => cases e; exact ⟨d, rfl, a⟩
      | succ i => exact Ens.at (i := i) b (by simpa using e)
theorem Ens.take : ∀ {vs : List V} {ds : List PyData} (n : Nat), Ens K N H vs ds → Ens K N H (vs.take n) (ds.take n)
  | _, _, n, .nil => by rw [List.take_nil, List.take_nil]; exact .nil
  | _, _, 0, .cons a b => .nil
  | _, _, n + 1, .cons a b => .cons a (Ens.take n b)
theorem Ens.drop : ∀ {vs : List V} {ds : List PyData} (n : Nat), Ens K N H vs ds → Ens K N H (vs.drop n) (ds.drop n)
  | _, _, n, .nil => by rw [List.drop_nil, List.drop_nil]; exact .nil
  | _, _, 0, .cons a b => .cons a b
  | _, _, n + 1, .cons a b => Ens.drop n b
theorem Ens.app : ∀ {vs us : List V} {ds es : List PyData}, Ens K N H vs ds → Ens K N H us es → Ens K N H (vs ++ us) (ds ++ es)
  | _, _, _, _, .nil, h => h
  | _, _, _, _, .cons a b, h => .cons a (Ens.app b h)
theorem Ens.set {v : V} {d : PyData} (h : En K N H v d) : ∀ {vs : List V} {ds : List PyData} (k : Nat), Ens K N H vs ds → Ens K N H (vs.set k v) (ds.set k d)
  | _, _, _, .nil => .nil
  | _, _, 0, .cons a b => .cons h b
  | _, _, k + 1, .cons a b => .cons a (Ens.set h k b)
theorem Ens.snoc {vs : List V} {ds : List PyData} {v : V} {d : PyData} (h : Ens K N H vs ds) (g : En K N H v d) : Ens K N H (vs ++ [v]) (ds ++ [d]) := h.app (.cons g .nil)
theorem Ens.get : ∀ {vs : List V} {ds : List PyData} {i : Nat} {d : PyData}, Ens K N H vs ds → ds[i]? = some d → ∃ v, vs[i]? = some v ∧ En K N H v d
  | _, _, _, _, .nil, e => by simp at e
  | _, _, i, d, .cons (v := v) a b, e => by
    cases i with
    | zero => cases e; exact ⟨v, rfl, a⟩
    | succ i => exact Ens.get (i := i) b (by simpa using e)
theorem Ens.rep : ∀ (k : Nat) {vs : List V} {ds : List PyData}, Ens K N H vs ds → Ens K N H (List.replicate k vs).flatten (List.replicate k ds).flatten
  | 0, _, _, _ => .nil
  | k + 1, vs, ds, h => by
    rw [List.replicate_succ, List.replicate_succ, List.flatten_cons, List.flatten_cons]
    exact h.app (Ens.rep k h)
end
section
variable {X : Cx} {pins : List (Addr × Obj)} {σ : L2.St} {H : Hp} {s : Shared} {N : Addr → Prop}
mutual
theorem En.reads (I : Inv X pins σ H s) (hN : ∀ a, N a → a ≠ sysModules) : ∀ (d : PyData) (v : V) (u : Value), En X.K N H v d → RelV v u → ∃ as, Reads s.heap u d as ∧ sysModules ∉ as
  | .none, _, _, h, r => by cases h; cases r; exact ⟨_, .none, List.not_mem_nil⟩
  | .bool b, _, _, h, r => by cases h; cases r; exact ⟨_, .bool b, List.not_mem_nil⟩
  | .int i, _, _, h, r => by cases h; obtain ⟨t, rfl⟩ := r; exact ⟨_, .int i t, List.not_mem_nil⟩
  | .str x, _, _, h, r => by cases h; obtain ⟨t, rfl⟩ := r; exact ⟨_, .str x t, List.not_mem_nil⟩
  | .tuple ds, _, _, h, r => by
    cases h with
    | tup a b =>
      cases r
      obtain ⟨its, rv, ⟨o, ho, hc, n, hd⟩, _⟩ := I.tuple a
      obtain ⟨as, hr, hn⟩ := Ens.reads I hN ds _ its b rv
      exact ⟨as, .tuple ho hc hd hr, hn⟩
  | .list ds, _, _, h, r => by
    cases h with
    | @lst a _ _ na e b =>
      cases r
      obtain ⟨its, rv, ⟨o, n, ho, hc, _, hd⟩, _⟩ := I.list (SqL.of e)
      obtain ⟨as, hr, hn⟩ := Ens.reads I hN ds _ its b rv
      refine ⟨a :: as, .list ho hc hd hr, fun m => ?_⟩
      rcases List.mem_cons.mp m with z | z
      · exact hN a na z.symm
      · exact hn z
  | .dict _, _, _, h, r => by
    cases h with
    | @emp a na e =>
      cases r
      obtain ⟨_, _, vs, rel, o, es, ep, h1, h2, h3, _, pr, _⟩ := dk_of I.hok e
      cases rel
      generalize hes : es.toList = L at pr
      cases pr
      refine ⟨_, .dict (as := []) (bs := []) h1 h2.1 h3 (by rw [hes]; exact .nil) (by rw [hes]; exact .nil), fun m => ?_⟩
      rcases List.mem_cons.mp m with z | z
      · exact hN a na z.symm
      · simp at z
theorem Ens.reads (I : Inv X pins σ H s) (hN : ∀ a, N a → a ≠ sysModules) : ∀ (ds : List PyData) (vs : List V) (us : List Value), Ens X.K N H vs ds → Vals vs us → ∃ as, ReadsAll s.heap us ds as ∧ sysModules ∉ as
  | [], _, _, h, r => by cases h; cases r; exact ⟨_, .nil, List.not_mem_nil⟩
  | d :: ds, _, _, h, r => by
    cases h with
    | cons a b =>
      cases r with
      | cons ra rb =>
        obtain ⟨as, h1, n1⟩ := En.reads I hN d _ _ a ra
        obtain ⟨bs, h2, n2⟩ := Ens.reads I hN ds _ _ b rb
        exact ⟨as ++ bs, .cons h1 h2, fun m => (List.mem_append.mp m).elim n1 n2⟩
end
end
/-- repr of such -/
def rReprE (K : PySem.W.Frag) : List V → Hp → VK → Prop := fun xs H Q => ∃ (v : V) (d : PyData) (N : Addr → Prop), xs = [v] ∧ (∀ b, N b → b ≠ sysModules) ∧ En K N H v d ∧ d.showable = true ∧ d.depth ≤ 60 ∧ d.shown.length ≤ sizeLine ∧ Q (.str d.shown) H
theorem call_reprE {X : Cx} (hg : X.A.guards = some []) (hu : X.A.units + 64 < cLine) : CallR X (.builtin "repr") (rReprE X.K) := by
  intro pins s σ H xs us Q I r h
  obtain ⟨v, d, N, rfl, hN, hd, hs, hz, hl, q⟩ := h
  obtain ⟨u, rfl, ru⟩ := r.one
  obtain ⟨as, rd, hn⟩ := En.reads I hN d v u hd ru
  cases rd with
  | none => exact PySem.P.repr_of_none ⟨.str _, H, I.tok _, ⟨_, rfl⟩, q⟩
  | bool b => exact PySem.P.repr_of_bool ⟨.str _, H, I.tok _, ⟨_, rfl⟩, q⟩
  | int i t => exact PySem.P.repr_of_int (of_decide_eq_true hs) ⟨.str _, H, I.tok _, ⟨_, rfl⟩, q⟩
  | str z t => exact PySem.P.repr_of_str (hsz := hl) ⟨.str _, H, I.tok _, ⟨_, rfl⟩, q⟩
  | list h1 h2 h3 h4 => exact PySem.repr_of_reads' (.list h1 h2 h3 h4) hs (fun _ m => hn m) hg (by omega) (fun _ _ e => e) (fun g u tk k => ⟨.str _, H, I.kept (t' := tk) k, ⟨_, rfl⟩, q⟩) hl
  | tuple h1 h2 h3 h4 => exact PySem.repr_of_reads' (.tuple h1 h2 h3 h4) hs (fun _ m => hn m) hg (by omega) (fun _ _ e => e) (fun g u tk k => ⟨.str _, H, I.kept (t' := tk) k, ⟨_, rfl⟩, q⟩) hl
  | dict h1 h2 h3 h4 h5 => exact PySem.repr_of_reads' (.dict h1 h2 h3 h4 h5) hs (fun _ m => hn m) hg (by omega) (fun _ _ e => e) (fun g u tk k => ⟨.str _, H, I.kept (t' := tk) k, ⟨_, rfl⟩, q⟩) hl
end De
namespace De
open PySem PySem.SeqAt MeetsSeq
section
variable {A : Around} {s : Shared}
theorem str_declines (b : Str) (u : Tok) (l : Addr) (es : Array DictEntry) (nn : Nat) (dd : Option Addr) (sl : Array (Option Value)) :
    Meets (Builtin.«str.__eq__» ⟨[.str b u, .ref l], []⟩) (fun _ R s => s.heap.get? l = some { cls := .type "dict", dict := dd, data := .dict es nn, slots := sl } ∧ R (.ok (.ret .notImplemented)) s) :=
  .of_wp fun prog w A R s h => by obtain ⟨hp, g, d, tk, os⟩ := s; obtain ⟨hl, h⟩ := h; wp_walk using wpAny_loadPart' hl, wpAny_load hl; exact ⟨_, rfl, h⟩
theorem dict_declines (b : Str) (u : Tok) (l : Addr) (es : Array DictEntry) (nn : Nat) (dd : Option Addr) (sl : Array (Option Value)) :
    Meets (Builtin.«dict.__eq__» ⟨[.ref l, .str b u], []⟩) (fun _ R s => s.heap.get? l = some { cls := .type "dict", dict := dd, data := .dict es nn, slots := sl } ∧ R (.ok (.ret .notImplemented)) s) :=
  .of_wp fun prog w A R s h => by obtain ⟨hp, g, d, tk, os⟩ := s; obtain ⟨hl, h⟩ := h; have f1 := F.sub_str_dict; wp_walk using wpAny_loadPart' hl; exact ⟨_, rfl, h⟩
theorem rc_str_dict {l : Addr} {o : Obj} {es : Array DictEntry} {nn : Nat} (b : Str) (u : Tok) (ho : s.heap.get? l = some o) (hc : o.cls = .type "dict") (hd : o.data = .dict es nn) (hu : A.units < cLine) : RcAt A s (.str b u) (.ref l) false := fun prog w E Q h => by
  obtain ⟨cls, dd, data, sl⟩ := o
  simp only at hc hd
  subst hc hd
  exact rc_eq_decline_or (k := false) (typeIs_str s b u) ⟨_, ho, rfl⟩ (by decide) F.sub_dict_str F.slot_str_eq F.slot_dict_eq_refl
    (fun _ hq => call_meets F.slot_str_eq (typeIs_str s b u) F.entry_str_eq (F.args_str_eq_2 _ _) (str_declines b u l es nn dd sl) ⟨ho, hq⟩)
    (fun _ hq => call_meets F.slot_dict_eq_refl ⟨_, ho, rfl⟩ F.entry_dict_eq (F.args_dict_eq_2 _ _) (dict_declines b u l es nn dd sl) ⟨ho, hq⟩)
    (fun _ hq => wpAny_of_eq (rfl : isSame (.str b u) (.ref l) = pure false) hq) (.inr hu) h
theorem eq_str_dict {l : Addr} {o : Obj} {es : Array DictEntry} {nn : Nat} (b : Str) (u : Tok) (ho : s.heap.get? l = some o) (hc : o.cls = .type "dict") (hd : o.data = .dict es nn) (hu : A.units < cLine) : EqAt A s (.str b u) (.ref l) false := fun prog w E Q h => by
  unfold eqBool
  refine wpAny_holding ?_
  refine wpAny_ite_split (fun hab => absurd (eq_of_beq hab) nofun) (fun _ => ?_)
  exact wpAny_bind (rc_str_dict b u ho hc hd hu prog w E _ (wpAny_truthy_bool h))
end
end De
namespace De
open PySem PySem.Spec PyProof.Rows L2 Dv Wm PySem.SeqAt
/-- a text against any such datum -/
theorem eq_str_any {X : Cx} {pins : List (Addr × Obj)} {σ : L2.St} {H : Hp} {s : Shared} {N : Addr → Prop} {A : Around} (I : Inv X pins σ H s) (hN : ∀ a, N a → a ≠ sysModules) {d : PyData} {v : V} {u : Value} (h : En X.K N H v d) (r : RelV v u) (t : Str) (k : Tok) (hu : A.units < cLine) :
    EqAt A s (.str t k) u (PyData.eqv (.str t) d) := by
  obtain ⟨as, rd, _⟩ := En.reads I hN d v u h r
  cases rd with
  | none => exact EqAt.str_none t k
  | bool y => exact EqAt.str_bool t k y
  | int y u => exact EqAt.str_int t k y u
  | str y u => exact EqAt.str_str t k y u
  | list k1 k2 k3 k4 => exact EqAt.str_list t k ⟨_, k1, k2, _, k3⟩ hu
  | tuple k1 k2 k3 k4 => exact EqAt.str_tuple t k ⟨_, k1, k2, _, k3⟩ hu
  | dict k1 k2 k3 k4 k5 => exact eq_str_dict t k k1 k2 k3 hu
/-- x in (texts), x any such datum -/
def rInTx (K : PySem.W.Frag) : R2 := fun x y H Q => ∃ (d : PyData) (N : Addr → Prop) (q : Addr) (ts : List Str), (∀ a, N a → a ≠ sysModules) ∧ En K N H x d ∧ y = .ref q ∧ SqT K H q (ts.map V.str) ∧ Q (.bl (ts.any fun t => PyData.eqv (.str t) d)) H
theorem vals_str : ∀ {ts : List Str} {us : List Value}, Vals (ts.map V.str) us → ∀ y ∈ us, ∃ t k, y = Value.str t k
  | [], _, h, _, m => by cases h; cases m
  | t :: ts, _, h, y, m => by
    cases h with
    | cons a b =>
      rcases List.mem_cons.mp m with rfl | m
      · obtain ⟨k, e⟩ := a
        exact ⟨t, k, e⟩
      · exact vals_str b y m
def strB (d : PyData) : Value → Bool
  | .str t _ => PyData.eqv (.str t) d
  | _ => false
theorem any_str (d : PyData) : ∀ {ts : List Str} {us : List Value}, Vals (ts.map V.str) us → us.any (strB d) = ts.any fun t => PyData.eqv (.str t) d
  | [], _, h => by cases h; rfl
  | t :: ts, _, h => by
    cases h with
    | cons a b =>
      obtain ⟨k, e⟩ := a
      rw [List.any_cons, List.any_cons, any_str d b, e]
      rfl
theorem op_inTx {X : Cx} (hu : X.A.units + 65 < cLine) : OpR X (compareOp .In) (rInTx X.K) := by
  intro pins s σ H x y v u Q I rx ry h
  obtain ⟨d, N, q, ts, hN, hd, rfl, hq, k⟩ := h
  cases ry
  obtain ⟨its, rv, hl, _⟩ := I.tuple hq
  refine SeqAt.in_tupleAt (strB d) hl (fun y hy => ?_) ?_
  · obtain ⟨t, k, rfl⟩ := vals_str rv y (by simpa using hy)
    exact eq_str_any I hN hd rx t k (show X.A.units + 1 < cLine by omega)
  · have e : its.toArray.any (strB d) = ts.any fun t => PyData.eqv (.str t) d := by
      rw [← Array.any_toList]
      exact any_str d (by simpa using rv)
    rw [e]
    exact ⟨.bl _, H, I, rfl, k⟩
/-- xs != [] -/
def rNeNil (K : PySem.W.Frag) : R2 := fun x y H Q => ∃ (a b : Addr) (xs : List V), x = .ref a ∧ y = .ref b ∧ SqL K H a xs ∧ SqL K H b [] ∧ Q (.bl (!xs.isEmpty)) H
theorem op_neNil {X : Cx} (hu : X.A.units + 65 < cLine) : OpR X (compareOp .NotEq) (rNeNil X.K) := by
  intro pins s σ H x y v u Q I rx ry h
  obtain ⟨a, b, xs, rfl, rfl, ha, hb, k⟩ := h
  cases rx
  cases ry
  obtain ⟨its, rv, pl, _⟩ := I.list ha
  obtain ⟨jts, rw2, pl2, _⟩ := I.list hb
  cases rw2
  have hu2 : X.A.units < cLine := by omega
  show wpAny _ _ (richCompare .NotEq _ _) _ _ s
  cases rv with
  | nil => exact RcNeAt.lists (e := fun _ => true) pl.isList pl2.isList rfl hu2 (fun j h1 => absurd h1 (by simp)) _ _ _ _ ⟨.bl _, H, I, rfl, k⟩
  | cons r1 r2 => exact RcNeAt.lists_lengths pl.isList pl2.isList (by simp) hu2 _ _ _ _ ⟨.bl _, H, I, rfl, k⟩
end De

/-! A generator def's body where its consumer does as it likes between two items: the reading of a yield is the consumer's turn. -/
namespace G3
open PySem PySem.Spec PyProof.Rows GenW L2
/-- what is renewed at each wake: the start, its abstract heap, what is wanted of an exception, pins -/
structure Rn where
  s : Shared
  H : Hp
  xe : Value → Shared → Prop
  pn : List (Addr × Obj)
/-- the context with another start and another way out -/
abbrev on (X : Cx) (ρ : Rn) : Cx := { X with s_0 := ρ.s, H_0 := ρ.H, xe := ρ.xe, pn := ρ.pn }
/-- which renewals the consumer may make, where the generator was woken last at the first state, the consumer's locals being the second -/
abbrev Fm := Shared → L2.St → Rn → Prop
/-- the consumer's turn: how many items are out, the item, the consumer's locals, the heap, what must hold behind the turn -/
abbrev Tn := Nat → V → L2.St → Hp → (L2.St → Hp → Prop) → Prop
/-- the renewed pins are none of the generator's own iterators -/
def Av (ρ : Rn) (ip : List (Addr × Obj)) : Prop := ∀ p ∈ ρ.pn, ∀ q ∈ ip, p.1 ≠ q.1
/-- how many items are out, and the consumer's locals, of which the generator only knows that they are -/
abbrev Kg := Nat × L2.St
def Mono (Y : Tn) : Prop := ∀ k x γ H P P', (∀ γ2 H2, P γ2 H2 → P' γ2 H2) → Y k x γ H P → Y k x γ H P'
def Pr (X : Cx) (F : Fm) (Y : Tn) : Protocol := fun n s₀ v s kap =>
  ∃ ρ ip σ H x k, ∃ γ : L2.St, F s₀ γ ρ ∧ Av ρ ip ∧ n + 1 + k = sizeLine ∧ RelV x v ∧ Inv (on X ρ) ip σ H s ∧ Y k x γ H fun γ2 H2 => ∀ ρ2 t, F t γ2 ρ2 → Av ρ2 ip → Inv (on X ρ2) ip σ H2 t → kap (.send .none) t
structure Ends2 where
  nx : Kg → L2.St → Hp → Prop
  rt : Kg → VK
  bk : Kg → L2.St → Hp → Prop := fun _ _ _ => False
  ct : Kg → L2.St → Hp → Prop := fun _ _ _ => False
def Ends2.to (D : Ends2) (k : Kg) : Ends := { nx := D.nx k, rt := D.rt k, bk := D.bk k, ct := D.ct k }
abbrev T2 := Ends2 → Kg → L2.St → Hp → Prop
structure Pl (X : Cx) (A : Around) (c : Code) (fs : List Frame) (gd : Bool → Bool) : Prop where
  over : A.over c fs = X.A
  split : splitAtGen fs = none
  guard : fs.any Frame.guarded = false
  gd : gd false = false
structure Nx (X : Cx) (F : Fm) (Y : Tn) (ip : List (Addr × Obj)) (A : Around) (R : GenEnd) (c : Code) (fs : List Frame) (K : Flow → Sem PySem.Fin) (J : Value → Sem PySem.Fin) (D : Ends2) : Prop where
  ok : ∀ (n : Nat) (k : Kg) (s₀ t : Shared) (f : Flow) (ρ : Rn), n + k.1 = sizeLine → F s₀ k.2 ρ → Av ρ ip → SP (on X ρ) ip (D.to k) f t → Seg (model X.prog X.w) A R (Pr X F Y) n s₀ c (K f) fs t
  exc : ∀ (n : Nat) (s₀ : Shared) (γ : L2.St) (e : Value) (t : Shared) (ρ : Rn), F s₀ γ ρ → ρ.xe e t → Seg (model X.prog X.w) A R (Pr X F Y) n s₀ c (J e) fs t
structure GT (X : Cx) (F : Fm) (Y : Tn) (m : Sem Flow) (t : T2) : Prop where
  run : ∀ (A : Around) (ip : List (Addr × Obj)) (R : GenEnd) (n : Nat) (k : Kg) (s₀ : Shared) (c : Code) (fs : List Frame) (K : Flow → Sem PySem.Fin) (J : Value → Sem PySem.Fin) (gd : Bool → Bool) (lv : List Value → List Value) (s : Shared) (σ : L2.St) (H : Hp) (D : Ends2) (ρ : Rn),
    F s₀ k.2 ρ → Av ρ ip → Pl X A c fs gd → n + k.1 = sizeLine → Nx X F Y ip A R c fs K J D → Inv (on X ρ) ip σ H s → t D k σ H → Seg (model X.prog X.w) A R (Pr X F Y) n s₀ c (m.wrap K J gd lv) fs s
abbrev GT1 (X : Cx) (F : Fm) (Y : Tn) (st : Stmt) (t : T2) : Prop := GT X F Y (exec st X.env) t
abbrev GTs (X : Cx) (F : Fm) (Y : Tn) (l : List Stmt) (t : T2) : Prop := GT X F Y (execs l X.env) t
section
variable {X : Cx} {F : Fm} {Y : Tn} {st : Stmt} {rest : List Stmt} {e : Expr} {te : TE} {yp pos : Pos}
/-- a statement that hands out nothing -/
def tP (t : TS) : T2 := fun D k σ H => t (D.to k) σ H
theorem gt_ps {t : TS} (h : ∀ s₀ γ ρ, F s₀ γ ρ → PS (on X ρ) st t) : GT1 X F Y st (tP t) := by
  refine ⟨fun A ip R n k s₀ c fs K J gd lv s σ H D ρ hF hav g hn q I ht => seg_wrap ?_⟩
  rw [g.over]
  exact wpAny_mono ((h _ _ ρ hF).run _ s σ H (D.to k) I ht) (fun f t hs => q.ok n k s₀ t f ρ hn hF hav hs) fun x t hx => q.exc n s₀ _ x t ρ hF hx
theorem gts_pss {t : TS} (h : ∀ s₀ γ ρ, F s₀ γ ρ → PSs (on X ρ) rest t) : GTs X F Y rest (tP t) := by
  refine ⟨fun A ip R n k s₀ c fs K J gd lv s σ H D ρ hF hav g hn q I ht => seg_wrap ?_⟩
  rw [g.over]
  exact wpAny_mono ((h _ _ ρ hF).run _ s σ H (D.to k) I ht) (fun f t hs => q.ok n k s₀ t f ρ hn hF hav hs) fun x t hx => q.exc n s₀ _ x t ρ hF hx
def tN : T2 := fun D k σ H => D.nx k σ H
theorem gts_nil : GTs X F Y [] tN := by
  refine ⟨fun A ip R n k s₀ c fs K J gd lv s σ H D ρ hF hav g hn q I ht => ?_⟩
  exact seg_execs_nil (q.ok n k s₀ s .next ρ hn hF hav ⟨σ, H, I, ht⟩)
def tThen (t u : T2) : T2 := fun D k σ H => t { D with nx := fun k' σ' H' => u D k' σ' H' } k σ H
theorem gts_cons {t u : T2} (a : GT1 X F Y st t) (b : GTs X F Y rest u) : GTs X F Y (st :: rest) (tThen t u) := by
  refine ⟨fun A ip R n k s₀ c fs K J gd lv s σ H D ρ hF hav g hn q I ht => seg_execs_cons ?_⟩
  refine a.run A ip R n k s₀ c fs _ J gd lv s σ H { D with nx := fun k' σ' H' => u D k' σ' H' } ρ hF hav g hn ⟨fun n1 k1 s₁ t1 f ρ2 hn1 hF1 hv1 hs => ?_, q.exc⟩ I ht
  cases f with
  | next =>
    obtain ⟨σ1, H1, I1, q1⟩ := hs
    exact b.run A ip R n1 k1 s₁ c fs K J gd lv t1 σ1 H1 D ρ2 hF1 hv1 g hn1 q I1 q1
  | brk => exact q.ok n1 k1 s₁ t1 .brk ρ2 hn1 hF1 hv1 hs
  | cont => exact q.ok n1 k1 s₁ t1 .cont ρ2 hn1 hF1 hv1 hs
  | ret u => exact q.ok n1 k1 s₁ t1 (.ret u) ρ2 hn1 hF1 hv1 hs
/-- yield e: the item is told, the consumer takes its turn -/
def tY (Y : Tn) (te : TE) : T2 := fun D k σ H => k.1 < sizeLine ∧ te σ H fun x H1 => Y k.1 x k.2 H1 fun γ H2 => D.nx (k.1 + 1, γ) σ H2
theorem gt_yield (mono : Mono Y) (he : ∀ s₀ γ ρ, F s₀ γ ρ → PE (on X ρ) e te) (hco : X.env.scope.isCoroutine = false := by rfl) (hi : interactive X.env = false := by rfl) : GT1 X F Y (.Expr (.Yield (some e) yp) pos) (tY Y te) := by
  refine ⟨fun A ip R n k s₀ c fs K J gd lv s σ H D ρ hF hav g hn q I ht => ?_⟩
  obtain ⟨hlt, ht⟩ := ht
  obtain ⟨n, rfl⟩ : ∃ m, n = m + 1 := ⟨n - 1, by omega⟩
  refine seg_Expr_Yield g.split g.gd g.guard ?_ hco hi
  rw [g.over]
  refine wpAny_mono ((he _ _ ρ hF).run _ s σ H _ I ht) (fun v t hv => ?_) fun x t hx => q.exc _ s₀ _ x t ρ hF hx
  obtain ⟨x, H1, I1, rv, y⟩ := hv
  intro kap hk
  refine ⟨ρ, ip, σ, H1, x, k.1, k.2, hF, hav, hn, rv, I1, mono _ _ _ _ _ _ (fun γ H2 q2 => ?_) y⟩
  intro ρ2 t2 hF2 hav2 I2
  refine hk .none t2 ?_
  exact q.ok n (k.1 + 1, γ) t2 t2 .next ρ2 (by show n + (k.1 + 1) = sizeLine; omega) hF2 hav2 ⟨σ, H2, I2, q2⟩
def tIf (tc : TT) (t u : T2) : T2 := fun D k σ H => tc σ H fun b H1 => if b = true then t D k σ H1 else u D k σ H1
theorem gt_if {c : Expr} {a b : List Stmt} {tc : TT} {t u : T2} (hc : ∀ s₀ γ ρ, F s₀ γ ρ → PT (on X ρ) c tc) (ha : GTs X F Y a t) (hb : GTs X F Y b u) : GT1 X F Y (.If c a b pos) (tIf tc t u) := by
  refine ⟨fun A ip R n k s₀ cd fs K J gd lv s σ H D ρ hF hav g hn q I ht => ?_⟩
  rw [exec_If]
  rw [Sem.bind_eq_wrap', Sem.wrap_wrap]
  refine seg_wrap (wpAny_standAt ?_)
  rw [Sem.bind_eq_wrap', Sem.wrap_wrap]
  refine seg_wrap ?_
  rw [g.over]
  refine wpAny_mono ((hc _ _ ρ hF).run _ s σ H _ I ht) (fun d t hd => ?_) fun x t hx => q.exc n s₀ _ x t ρ hF hx
  obtain ⟨H2, I2, q2⟩ := hd
  cases d with
  | true => exact ha.run A ip R n k s₀ cd fs K J gd lv t σ H2 D ρ hF hav g hn q I2 q2
  | false => exact hb.run A ip R n k s₀ cd fs K J gd lv t σ H2 D ρ hF hav g hn q I2 q2
theorem pl_loop {A : Around} {c c' : Code} {fs : List Frame} {gd : Bool → Bool} {kk : Result → Sem PySem.Fin} {l kp : List Value} {p : Pos} (g : Pl X A c fs gd) (hw : c'.weight = 0) (hu : c'.cUnits = 0) : Pl X A c' (.ret kk none (gd false) l c p kp :: fs) id where
  over := (over_loop hw hu).trans g.over
  split := by
    show (splitAtGen fs).map _ = none
    rw [g.split]; rfl
  guard := by
    show (gd false || fs.any Frame.guarded) = false
    rw [g.gd, g.guard]; rfl
  gd := rfl
theorem seg_back {ip : List (Addr × Obj)} {A : Around} {R : GenEnd} {c : Code} {fs : List Frame} {K : Flow → Sem PySem.Fin} {J : Value → Sem PySem.Fin} {gd : Bool → Bool} {lv : List Value → List Value} {D : Ends2} {n : Nat} {s₀ s : Shared} {e : Value} {γ : L2.St} {ρ : Rn}
    (hF : F s₀ γ ρ) (g : Pl X A c fs gd) (q : Nx X F Y ip A R c fs K J D) (h : cameBackBy (model X.prog X.w) X.A X.env ρ.xe e s) :
    Seg (model X.prog X.w) A R (Pr X F Y) n s₀ c (((Sem.raise e : Sem Flow).onRaise (cameBack X.env)).wrap K J gd lv) fs s := by
  show Seg _ _ _ _ _ _ _ (((cameBack X.env e).bind fun _ => (Sem.raise e : Sem Flow)).wrap K J gd lv) _ _
  rw [Sem.bind_eq_wrap, Sem.wrap_wrap]
  refine seg_wrap ?_
  rw [g.over]
  exact wpAny_mono h (fun _ t hx => q.exc n s₀ _ e t ρ hF hx) fun x t hx => q.exc n s₀ _ x t ρ hF hx
def tWhile (c : TT) (tb : T2) : T2 := fun D k σ H => ∃ W : Nat → Kg → L2.St → Hp → Prop, (∃ m, W m k σ H) ∧ ∀ m k σ H, W m k σ H →
  c σ H fun b H1 => if b = true then ∃ N : Kg → L2.St → Hp → Prop, (∀ k' σ' H', N k' σ' H' → ∃ m', m' < m ∧ W m' k' σ' H') ∧ tb { D with nx := N, ct := N, bk := D.nx } k σ H1 else D.nx k σ H1
theorem gt_while {test : Expr} {body : List Stmt} {tc : TT} {tb : T2} (hp : ∀ s₀ γ ρ, F s₀ γ ρ → PassesOwn (model X.prog X.w) X.A X.env ρ.xe) (hc : ∀ s₀ γ ρ, F s₀ γ ρ → PT (on X ρ) test tc) (hb : GTs X F Y body tb) : GT1 X F Y (.While test body [] pos) (tWhile tc tb) := by
  refine ⟨fun A ip R n k s₀ cd fs K J gd lv s σ H D ρ hF hav g hn q I ht => ?_⟩
  obtain ⟨W, ⟨m0, w0⟩, turn⟩ := ht
  refine seg_While fun p => ?_
  have gl := fun (kk : Result → Sem PySem.Fin) => pl_loop (kk := kk) (c' := .whileLoop test body [] X.env) (l := lv []) (kp := []) (p := p) g rfl rfl
  have loop : ∀ (m n : Nat) (k : Kg) (s₀ s : Shared) (σ : L2.St) (H : Hp) (ρ : Rn), F s₀ k.2 ρ → Av ρ ip → n + k.1 = sizeLine → W m k σ H → Inv (on X ρ) ip σ H s →
      Seg (model X.prog X.w) A R (Pr X F Y) n s₀ (.whileLoop test body [] X.env) ((model X.prog X.w).den (.whileLoop test body [] X.env))
        (.ret (fun r => ((match r with | .ok f => (.pure f : Sem Flow) | .error e => .raise e).onRaise (cameBack X.env)).wrap K J gd lv) none (gd false) (lv []) cd p [] :: fs) s := by
    intro m
    induction m using Nat.strongRecOn with
    | ind m ih =>
      intro n k s₀ s σ H ρ hF hav hn w I
      have ee : ∀ (n : Nat) (s₀ : Shared) (γ : L2.St) (x : Value) (t : Shared) (ρ2 : Rn), F s₀ γ ρ2 → ρ2.xe x t → Seg (model X.prog X.w) A R (Pr X F Y) n s₀ (.whileLoop test body [] X.env)
          ((do noteFrame x X.env; theTreesLotGoes x : Sem Unit).wrap (fun _ => .raise x) .raise id id)
          (.ret (fun r => ((match r with | .ok f => (.pure f : Sem Flow) | .error e => .raise e).onRaise (cameBack X.env)).wrap K J gd lv) none (gd false) (lv []) cd p [] :: fs) t := fun n s₀ γ x t ρ2 hF2 hx => by
        refine seg_wrap ?_
        rw [(gl _).over]
        refine wpAny_bind (wpAny_mono (hp _ _ ρ2 hF2 x t hx) (fun _ t2 hcb => wpAny_theTreesLotGoes ?_) fun y t2 hcb => ?_)
        · exact seg_leaf (.error x) (seg_back hF2 g q hcb)
        · exact seg_leaf (.error y) (seg_back hF2 g q hcb)
      refine seg_whileLoop ?_
      rw [(gl _).over]
      refine wpAny_mono ((hc _ _ ρ hF).run _ s σ H _ I (turn m k σ H w)) (fun b t hb' => ?_) fun x t hx => ee n s₀ _ x t ρ hF hx
      obtain ⟨H2, I2, q2⟩ := hb'
      cases b with
      | true =>
        obtain ⟨N, hN, q2⟩ := q2
        rw [if_pos rfl]
        refine hb.run A ip R n k s₀ _ _ _ _ id id t σ H2 { D with nx := N, ct := N, bk := D.nx } ρ hF hav (gl _) hn ⟨fun n1 k1 s₁ t1 f ρ2 hn1 hF1 hv1 hs => ?_, fun n1 s₁ γ x t1 ρ2 hF2 hx => ee n1 s₁ γ x t1 ρ2 hF2 hx⟩ I2 q2
        cases f with
        | next =>
          obtain ⟨σ3, H3, I3, n3⟩ := hs
          obtain ⟨m', hm, w3⟩ := hN k1 σ3 H3 n3
          exact seg_again rfl (ih m' hm n1 k1 s₁ t1 σ3 H3 ρ2 hF1 hv1 hn1 w3 I3)
        | cont =>
          obtain ⟨σ3, H3, I3, n3⟩ := hs
          obtain ⟨m', hm, w3⟩ := hN k1 σ3 H3 n3
          exact seg_again rfl (ih m' hm n1 k1 s₁ t1 σ3 H3 ρ2 hF1 hv1 hn1 w3 I3)
        | brk => exact seg_leaf (.ok .next) (q.ok n1 k1 s₁ t1 .next ρ2 hn1 hF1 hv1 hs)
        | ret v => exact seg_leaf (.ok (.ret v)) (q.ok n1 k1 s₁ t1 (.ret v) ρ2 hn1 hF1 hv1 hs)
      | false =>
        rw [if_neg Bool.false_ne_true]
        refine seg_execs_nil ?_
        exact seg_leaf (.ok .next) (q.ok n k s₀ t .next ρ hn hF hav ⟨σ, H2, I2, q2⟩)
  exact loop m0 n k s₀ s σ H ρ hF hav hn w0 I
def tFor2 (wi : TI) (g : TG) (tb : T2) : T2 := fun D k σ H => wi σ H fun J H1 => ∃ W : Nat → Nat → Kg → L2.St → Hp → Prop, (∃ m, W 0 m k σ H1) ∧ ∀ i m k σ H, W i m k σ H →
  (J.stop i H ∧ D.nx k σ H) ∨ (J.go i H ∧ ∃ N : Kg → L2.St → Hp → Prop, (∀ k' σ' H', N k' σ' H' → ∃ m', m' < m ∧ W (i + 1) m' k' σ' H') ∧ ∀ x H', J.yld i H x H' → g x σ H' fun σ2 H2 => tb { D with nx := N, ct := N, bk := D.nx } k σ2 H2)
theorem gt_for {iter tg : Expr} {body : List Stmt} {wi : TI} {g : TG} {tb : T2} {n0 : Nat} (hsz : ∀ s₀ γ ρ, F s₀ γ ρ → ρ.s.heap.objs.size = n0) (hp : ∀ s₀ γ ρ, F s₀ γ ρ → PassesOwn (model X.prog X.w) X.A X.env ρ.xe) (hc : X.calm = true)
    (hi : ∀ s₀ γ ρ, F s₀ γ ρ → PI (on X ρ) tg iter wi) (hg : ∀ s₀ γ ρ, F s₀ γ ρ → PG (on X ρ) tg g) (hb : GTs X F Y body tb) (hs : ∀ x, foldedSetIterable iter X.env x = pure x := by intro _; rfl) : GT1 X F Y (.For tg iter body [] pos) (tFor2 wi g tb) := by
  refine ⟨fun A ip R n k s₀ cd fs K J gd lv s σ H D ρ hF hav g0 hn q I ht => ?_⟩
  rw [exec_For]
  simp only [hs]
  rw [Sem.bind_eq_wrap', Sem.wrap_wrap]
  refine seg_wrap (wpAny_standAt ?_)
  rw [Sem.bind_eq_wrap', Sem.wrap_wrap]
  refine seg_wrap ?_
  rw [g0.over]
  refine wpAny_mono ((hi _ _ ρ hF).run _ s σ H _ I ht) (fun v s1 h1 => ?_) fun x t hx => q.exc n s₀ _ x t ρ hF hx
  show Seg _ _ _ _ _ _ _ (Sem.wrap _ _ _ _ (standAt iter.pos >>= _)) _ _
  rw [Sem.bind_eq_wrap', Sem.wrap_wrap]
  refine seg_wrap (wpAny_standAt ?_)
  rw [Sem.bind_eq_wrap', Sem.wrap_wrap]
  refine seg_wrap ?_
  rw [g0.over]
  refine wpAny_holding (wpAny_mono h1 (fun itv s2 h2 => ?_) fun x t hx => q.exc n s₀ _ x t ρ hF hx)
  obtain ⟨it, fp, tn, JJ, H2, e, I2, T, st2, f2, W, ⟨m0, w0⟩, turn⟩ := h2
  subst e
  have stat : ∀ {s₁ : Shared} {γ : L2.St} {ρ3 : Rn} {H' : Hp}, F s₁ γ ρ3 → (∀ p ∈ ρ3.pn, ∀ b ∈ fp, p.1 ≠ b) → (∀ b ∈ fp, H' b = none) → ∀ b ∈ fp, FpOk (on X ρ3) ip H' b := fun {s₁ γ ρ3 H'} hF3 hvb hn b hb => by
    obtain ⟨_, a1, a2, a3, a4, a5⟩ := f2 b hb
    refine ⟨hn b hb, a1, a2, a3.imp id fun z => ?_, a4, fun p hp => ?_⟩
    · show ρ3.s.heap.objs.size ≤ b
      rw [hsz _ _ ρ3 hF3, ← hsz _ _ ρ hF]
      exact z
    · rcases List.mem_append.mp hp with hp | hp
      · exact hvb p hp b hb
      · exact a5 p (List.mem_append_right _ hp)
  have hvb0 : ∀ p ∈ ρ.pn, ∀ b ∈ fp, p.1 ≠ b := fun p hp b hb => (f2 b hb).2.2.2.2.2 p (List.mem_append_left _ hp)
  refine seg_call fun p => ?_
  have gl := fun (kk : Result → Sem PySem.Fin) => pl_loop (kk := kk) (c' := .forLoop tg (.ref it) body [] X.env) (l := lv []) (kp := []) (p := p) g0 rfl rfl
  have loop : ∀ (m i n : Nat) (k : Kg) (s₀ s : Shared) (σ : L2.St) (H : Hp) (ρ : Rn), F s₀ k.2 ρ → Av ρ ip → (∀ p ∈ ρ.pn, ∀ b ∈ fp, p.1 ≠ b) → n + k.1 = sizeLine → W i m k σ H → Inv (on X ρ) ip σ H s → tn i s.heap → (∀ b ∈ fp, H b = none) →
      Seg (model X.prog X.w) A R (Pr X F Y) n s₀ (.forLoop tg (.ref it) body [] X.env) ((model X.prog X.w).den (.forLoop tg (.ref it) body [] X.env))
        (.ret (fun r => ((match r with | .ok f => (.pure f : Sem Flow) | .error e => .raise e).onRaise (cameBack X.env)).wrap K J gd lv) none (gd false) (lv []) cd p [] :: fs) s := by
    intro m
    induction m using Nat.strongRecOn with
    | ind m ih =>
      intro i n k s₀ s σ H ρ hF hav hvb hn w I st fr
      have ee : ∀ (n : Nat) (s₀ : Shared) (γ : L2.St) (x : Value) (t : Shared) (ρ2 : Rn), F s₀ γ ρ2 → ρ2.xe x t → Seg (model X.prog X.w) A R (Pr X F Y) n s₀ (.forLoop tg (.ref it) body [] X.env)
          ((do noteFrame x X.env; theTreesLotGoes x : Sem Unit).wrap (fun _ => .raise x) .raise id id)
          (.ret (fun r => ((match r with | .ok f => (.pure f : Sem Flow) | .error e => .raise e).onRaise (cameBack X.env)).wrap K J gd lv) none (gd false) (lv []) cd p [] :: fs) t := fun n s₀ γ x t ρ2 hF2 hx => by
        refine seg_wrap ?_
        rw [(gl _).over]
        refine wpAny_bind (wpAny_mono (hp _ _ ρ2 hF2 x t hx) (fun _ t2 hcb => wpAny_theTreesLotGoes ?_) fun y t2 hcb => ?_)
        · exact seg_leaf (.error x) (seg_back hF2 g0 q hcb)
        · exact seg_leaf (.error y) (seg_back hF2 g0 q hcb)
      refine Gf.seg_forLoop (EE := ρ.xe) (fun x t hx => ee n s₀ _ x t ρ hF hx) ?_
      rw [(gl _).over]
      rcases turn i m k σ H w with ⟨stop, qn⟩ | ⟨go, N, hN, step⟩
      · refine wpAny_mono (T.done (on X ρ) rfl rfl rfl hc i _ s σ H ρ.xe I (stat hF hvb fr) st stop) (fun rr s4 h4 => ?_) fun x t hx => hx
        obtain ⟨hr, I4⟩ := h4
        subst hr
        refine seg_again rfl ?_
        exact seg_leaf (.ok .next) (q.ok n k s₀ s4 .next ρ hn hF hav ⟨σ, H, I4, qn⟩)
      · refine wpAny_mono (T.item (on X ρ) rfl rfl rfl hc i _ s σ H ρ.xe I (stat hF hvb fr) st go) (fun rr s4 h4 => ?_) fun x t hx => hx
        obtain ⟨u, hr, h4⟩ := h4
        subst hr
        refine wpAny_mono h4 (fun _ s5 h5 => ?_) fun x t hx => hx
        obtain ⟨x, H5, I5, r5, y5, st5, fr5⟩ := h5
        have I5' := I5.pinned (stat hF hvb fr5) (T.obj _ _ st5)
        refine wpAny_mono ((hg _ _ ρ hF).run _ s5 σ H5 x u _ I5' r5 (step x H5 y5)) (fun _ s6 h6 => ?_) fun x t hx => hx
        obtain ⟨σ6, H6, I6, q6⟩ := h6
        refine hb.run A (ip ++ pinsAt fp s5.heap) R n k s₀ _ _ _ _ id id s6 σ6 H6 { D with nx := N, ct := N, bk := D.nx } ρ hF (fun p hp q hq => (List.mem_append.mp hq).elim (hav p hp q) fun z => hvb p hp q.1 (of_pinsAt z).1) (gl _) hn ⟨fun n1 k1 s₁ s7 f ρ8 hn1 hF8 hv8 hs => ?_, fun n1 s₁ γ x t1 ρ8 hF8 hx => ee n1 s₁ γ x t1 ρ8 hF8 hx⟩ I6 q6
        have again : ∀ {σ7 : L2.St} {H7 : Hp}, Inv (on X ρ8) (ip ++ pinsAt fp s5.heap) σ7 H7 s7 → N k1 σ7 H7 → Seg (model X.prog X.w) A R (Pr X F Y) n1 s₁ (.forLoop tg (.ref it) body [] X.env) (.pure (.again (.forLoop tg (.ref it) body [] X.env)))
            (.ret (fun r => ((match r with | .ok f => (.pure f : Sem Flow) | .error e => .raise e).onRaise (cameBack X.env)).wrap K J gd lv) none (gd false) (lv []) cd p [] :: fs) s7 := fun {σ7 H7} I7 n7 => by
          obtain ⟨m', hm, w7⟩ := hN k1 σ7 H7 n7
          refine seg_again rfl (ih m' hm (i + 1) n1 k1 s₁ s7 σ7 H7 ρ8 hF8 (fun p hp q hq => hv8 p hp q (List.mem_append_left _ hq)) (fun p hp b hb' => ?_) hn1 w7 (Inv.unpinned I7) ?_ fun b hb' => ?_)
          · obtain ⟨o, e, d⟩ := T.obj _ _ st5 b hb'
            exact hv8 p hp (b, o) (List.mem_append_right _ (mem_pinsAt hb' e))
          · exact T.keep _ _ _ st5 fun b hb' o e => (I7.pin (b, o) (List.mem_append_right _ (List.mem_append_right _ (mem_pinsAt hb' e)))).1
          · obtain ⟨o, e, d⟩ := T.obj _ _ st5 b hb'
            exact (I7.pin (b, o) (List.mem_append_right _ (List.mem_append_right _ (mem_pinsAt hb' e)))).2.1
        cases f with
        | next => obtain ⟨σ7, H7, I7, n7⟩ := hs; exact again I7 n7
        | cont => obtain ⟨σ7, H7, I7, n7⟩ := hs; exact again I7 n7
        | brk => obtain ⟨σ7, H7, I7, q7⟩ := hs; exact seg_leaf (.ok .next) (q.ok n1 k1 s₁ s7 .next ρ8 hn1 hF8 (fun p hp q hq => hv8 p hp q (List.mem_append_left _ hq)) ⟨σ7, H7, Inv.unpinned I7, q7⟩)
        | ret v => obtain ⟨x7, σ7, H7, I7, r7, q7⟩ := hs; exact seg_leaf (.ok (.ret v)) (q.ok n1 k1 s₁ s7 (.ret v) ρ8 hn1 hF8 (fun p hp q hq => hv8 p hp q (List.mem_append_left _ hq)) ⟨x7, σ7, H7, Inv.unpinned I7, r7, q7⟩)
  exact loop m0 0 n k s₀ s2 σ H2 ρ hF hav hvb0 hn w0 I2 st2 fun b hb' => (f2 b hb').1
end
end G3

/-! yield from a list, the consumer free between two items. -/
namespace G3
open PySem PySem.Spec PyProof.Rows GenW L2
section
variable {X : Cx} {F : Fm} {Y : Tn} {e : Expr} {te : TE} {yp pos : Pos}
def tYfL (Y : Tn) (te : TE) : T2 := fun D k σ H => te σ H fun x H1 => ∃ a xs, x = .ref a ∧ k.1 + xs.length ≤ sizeLine ∧ ∃ W : Nat → L2.St → Hp → Prop, W 0 k.2 H1 ∧ (∀ j γ H, W j γ H → H a = some (.lst xs)) ∧
  (∀ j x γ H, xs[j]? = some x → W j γ H → Y (k.1 + j) x γ H fun γ2 H2 => W (j + 1) γ2 H2) ∧ ∀ γ H, W xs.length γ H → D.nx (k.1 + xs.length, γ) σ H
theorem lst_at {P : Program} {w : World} {H : Hp} {h : Heap} {a : Addr} {xs : List V} (ok : HOk P w H h) (ha : H a = some (.lst xs)) : ∃ its : List Value, Vals xs its ∧ h.IsList a its.toArray := by
  obtain ⟨_, its, n, r, e⟩ := ok a _ ha
  exact ⟨its, r, _, e, rfl, _, rfl⟩
theorem gt_yfL (mono : Mono Y) {n0 : Nat} (hsz : ∀ s₀ γ ρ, F s₀ γ ρ → ρ.s.heap.objs.size = n0) (he : ∀ s₀ γ ρ, F s₀ γ ρ → PE (on X ρ) e te) (hc : X.A.handled = none) (hi : interactive X.env = false := by rfl) : GT1 X F Y (.Expr (.YieldFrom e yp) pos) (tYfL Y te) := by
  refine ⟨fun A ip R n k s₀ c fs K J gd lv s σ H D ρ hF hav g hn q I ht => ?_⟩
  rw [exec_Expr X.env _ pos hi rfl]
  show Seg _ _ _ _ n s₀ c (.at pos fun _ => ((eval e X.env >>= fun v => (standAt yp >>= fun _ => yieldFrom X.env v)) >>= fun x => dropValue (.YieldFrom e yp) pos x).wrap K J gd lv) fs s
  refine seg_at ?_
  refine segw_bind2 ?_
  rw [g.over]
  refine wpAny_mono ((he _ _ ρ hF).run _ s σ H _ I ht) (fun v s1 hv => ?_) fun x t hx => q.exc n s₀ _ x t ρ hF hx
  obtain ⟨x, H1, I1, r1, a, xs, ex, hle, W, w0, wl, wy, wd⟩ := hv
  subst ex
  obtain rfl : v = Value.ref a := r1
  obtain ⟨its, rits, ht⟩ := lst_at I1.hok (wl _ _ _ w0)
  have hne' : ¬ ((Value.type "list" == Value.type "coroutine") = true) := by decide
  refine seg_at ?_
  show Seg _ _ _ _ n s₀ c ((yieldFrom X.env (.ref a)).wrap (fun b => (dropValue (.YieldFrom e yp) pos b).wrap K J gd lv) J gd lv) fs s1
  unfold yieldFrom
  refine seg_bind_wrap (wpAny_typeOf ht.typeIs ?_)
  rw [if_neg hne']
  refine seg_bind_wrap (wpAny_holding ?_)
  rw [g.over]
  refine wpAny_pyIter_list ht ?_
  have kp : ∀ b o, s1.heap.get? b = some o → (s1.heap.push { cls := .type "list_iterator", data := .fields #[.ref a, .int 0 0] }).get? b = some o := fun b o e => Heap.get?_push_of_some _ e
  have I2 : Inv (on X ρ) ip σ H1 { s1 with heap := s1.heap.push { cls := .type "list_iterator", data := .fields #[.ref a, .int 0 0] } } := I1.kept (t' := s1.toks) kp
  have fp : FpOk (on X ρ) ip H1 s1.heap.objs.size := I1.fpOk (Nat.le_refl _) (I1.hok.fresh (Nat.le_refl _))
  have st0 : ({ s1 with heap := s1.heap.push { cls := .type "list_iterator", data := .fields #[.ref a, .int 0 0] } } : Shared).heap.IsListIter s1.heap.objs.size a 0 := ⟨_, Heap.get?_push_size _ rfl, rfl, rfl⟩
  generalize s1.heap.objs.size = it at fp st0 I2 ⊢
  generalize ({ s1 with heap := s1.heap.push { cls := .type "list_iterator", data := .fields #[.ref a, .int 0 0] } } : Shared) = s2 at st0 I2 ⊢
  refine seg_call fun p => ?_
  obtain ⟨f0, f1, f2, f3, f4, f5⟩ := fp
  have f3 : it ∈ X.ex ∨ n0 ≤ it := f3.imp id fun z => by rw [← hsz _ _ ρ hF]; exact z
  have main : ∀ (fs' : List Frame), (A.over (.builtin "proto.yield_from" ⟨[.ref it, .bool false, .none], []⟩) fs').handled = none → splitAtGen fs' = none → fs'.any Frame.guarded = false →
      (∀ (n : Nat) (s₀ s : Shared) (γ : L2.St) (H : Hp) (ρ : Rn), n + (k.1 + xs.length) = sizeLine → F s₀ γ ρ → Av ρ ip → Inv (on X ρ) ip σ H s → W xs.length γ H → Seg (model X.prog X.w) A R (Pr X F Y) n s₀ (.builtin "proto.yield_from" ⟨[.ref it, .bool false, .none], []⟩) (.pure (.done (.ret .none))) fs' s) →
      ∀ (r j n : Nat) (s₀ s : Shared) (γ : L2.St) (H : Hp) (ρ : Rn), j + r = xs.length → n + (k.1 + j) = sizeLine → F s₀ γ ρ → Av ρ ip → (∀ p ∈ ρ.pn, p.1 ≠ it) → W j γ H → Inv (on X ρ) ip σ H s → s.heap.IsListIter it a j → H it = none →
      Seg (model X.prog X.w) A R (Pr X F Y) n s₀ (.builtin "proto.yield_from" ⟨[.ref it, .bool false, .none], []⟩) ((model X.prog X.w).den (.builtin "proto.yield_from" ⟨[.ref it, .bool false, .none], []⟩)) fs' s := by
    intro fs' hgo hsp hgd hend r
    induction r with
    | zero =>
      intro j n s₀ s γ H ρ hj hn hF hav hvb w I st hH
      have hj' : j = xs.length := by omega
      subst hj'
      obtain ⟨its, rits, ht⟩ := lst_at I.hok (wl _ _ _ w)
      have hnone : its.toArray[xs.length]? = none := by
        have e := rits.length
        have e2 : its[xs.length]? = none := List.getElem?_eq_none_iff.mpr (by omega)
        simpa using e2
      rw [den_yf]
      unfold Builtin.«proto.yield_from»
      try dsimp only
      refine seg_bind (wpAny_pure ?_)
      try dsimp only
      refine seg_bind (wpAny_attempt (wpAny_holding ?_))
      rw [if_neg Bool.false_ne_true, if_pos (show (Value.none == Value.none) = true from rfl)]
      refine wpAny_bind (wpAny_rule (wpAny_bind ?_))
      refine Si2.special_lst_end hgo st ht hnone fun e h' hS hk => ?_
      obtain ⟨b, o, vs, rfl, hoa, hcls, hdat, h5⟩ := hS
      try dsimp only
      refine seg_bind (wpAny_endsTurn hoa hcls ?_)
      try dsimp only
      rw [if_pos rfl]
      first
        | refine seg_bind (wpAny_rule ?_)
        | (rw [if_neg Bool.false_ne_true]; refine seg_bind (wpAny_rule ?_))
        | (rw [if_neg Bool.false_ne_true]; refine seg_bind (wpAny_pure ?_); refine seg_bind (wpAny_rule ?_))
      refine seg_bind (wpAny_field hoa hdat h5 ?_)
      refine hend n s₀ _ γ H ρ hn hF hav ?_ w
      exact I.turned (t' := s.toks) (it := it) (fun b o nb e => hk b o nb e) hH f1 (f3.imp id fun z => by show ρ.s.heap.objs.size ≤ it; rw [hsz _ _ ρ hF]; exact z) f4 fun p hp => (List.mem_append.mp hp).elim (hvb p) fun z => f5 p (List.mem_append_right _ z)
    | succ r ih =>
      intro j n s₀ s γ H ρ hj hn hF hav hvb w I st hH
      have hjl : j < xs.length := by omega
      obtain ⟨x, hx⟩ : ∃ x, xs[j]? = some x := ⟨xs[j], List.getElem?_eq_getElem hjl⟩
      obtain ⟨n, rfl⟩ : ∃ m, n = m + 1 := ⟨n - 1, by omega⟩
      obtain ⟨its, rits, ht⟩ := lst_at I.hok (wl _ _ _ w)
      obtain ⟨u, hu, ru⟩ := rits.get hx
      rw [den_yf]
      unfold Builtin.«proto.yield_from»
      try dsimp only
      refine seg_bind (wpAny_pure ?_)
      try dsimp only
      refine seg_bind (wpAny_attempt (wpAny_holding ?_))
      rw [if_neg Bool.false_ne_true, if_pos (show (Value.none == Value.none) = true from rfl)]
      refine wpAny_bind (wpAny_rule (wpAny_bind ?_))
      refine Si2.special_lst_item st ht (x := u) (by simpa using hu) fun h' st' hs => ?_
      have I' : Inv (on X ρ) ip σ H { s with heap := h' } := I.turned (t' := s.toks) (it := it) (fun b o nb e => hs.extBut b o nb e) hH f1 (f3.imp id fun z => by show ρ.s.heap.objs.size ≤ it; rw [hsz _ _ ρ hF]; exact z) f4 fun p hp => (List.mem_append.mp hp).elim (hvb p) fun z => f5 p (List.mem_append_right _ z)
      obtain ⟨oi, hoi, hoc, hod⟩ := id st'
      have hcl : typeLookup (.type "list_iterator") "close" = pure none := Si2.close_lst
      refine wpAny_pure ?_
      try dsimp only
      refine seg_bind (wpAny_typeOf (T := "list_iterator") ⟨oi, hoi, hoc⟩ ?_)
      try dsimp only
      first
        | (refine seg_bind (wpAny_of_eq hcl ?_); refine seg_bind (wpAny_pure ?_))
        | refine seg_bind (wpAny_bind (wpAny_of_eq hcl (wpAny_pure ?_)))
        | refine seg_bind (wpAny_of_eq hcl ?_)
      try dsimp only
      refine seg_bind (wpAny_sleptOver hoi hoc (by decide) ?_)
      have I'' : Inv (on X ρ) (ip ++ [(it, oi)]) σ H { s with heap := h' } := I'.pins_of fun p hp => by
        rcases List.mem_append.mp hp with hp | hp
        · exact I'.pin p (List.mem_append_right _ hp)
        · rw [List.mem_singleton.mp hp]
          exact ⟨hoi, hH, f1, f2, fun v z => by rw [hod] at z; cases z⟩
      refine seg_yield hsp rfl hgd ?_
      refine ⟨ρ, ip ++ [(it, oi)], σ, H, x, k.1 + j, γ, hF, fun p hp q hq => ?_, hn, ru, I'', mono _ _ _ _ _ _ (fun γ2 H2 w2 => ?_) (wy j x γ H hx w)⟩
      · rcases List.mem_append.mp hq with hq | hq
        · exact hav p hp q hq
        · rw [List.mem_singleton.mp hq]
          exact hvb p hp
      intro ρ2 t hF2 hav2 It
      obtain ⟨eit, nit, _, _, _⟩ := It.pin (it, oi) (List.mem_append_right _ (List.mem_append_right _ List.mem_cons_self))
      show Seg _ _ _ _ n t _ (Builtin.Generator.sleptOver (.ref it) false >>= fun _ => _) _ t
      refine seg_bind (wpAny_sleptOver eit hoc (by decide) ?_)
      try dsimp only
      refine seg_bind (wpAny_pure ?_)
      refine seg_again (plainId_quiet plain_yf _) (ih (j + 1) n t t γ2 H2 ρ2 (by omega) (by omega) hF2 (fun p hp q hq => hav2 p hp q (List.mem_append_left _ hq)) (fun p hp => hav2 p hp (it, oi) (List.mem_append_right _ List.mem_cons_self)) w2 It.unpinned ⟨oi, eit, hoc, hod⟩ nit)
  refine main _ ?_ ?_ ?_ (fun n s₀ s γ H ρ hn hF hav I w => ?_) xs.length 0 n s₀ s2 k.2 H1 ρ (Nat.zero_add _) hn hF hav (fun p hp => f5 p (List.mem_append_left _ hp)) w0 I2 st0 f0
  · show (A.over c fs).handled = none
    rw [g.over]; exact hc
  · show (splitAtGen fs).map _ = none
    rw [g.split]; rfl
  · show (gd false || fs.any Frame.guarded) = false
    rw [g.gd, g.guard]; rfl
  · exact seg_leaf (.ok (.ret .none)) (q.ok n (k.1 + xs.length, γ) s₀ s .next ρ hn hF hav ⟨σ, H, I, wd γ H w⟩)
end
end G3
namespace G3
open PySem PySem.Spec PyProof.Rows L2
/-- over a tuple that stays -/
theorem for2_tup {K : PySem.W.Frag} {a : Addr} {xs : List V} {g : TG} {tb : T2} {D : Ends2} {k : Kg} {σ : L2.St} {H : Hp} (Pv : Nat → Kg → L2.St → Hp → Prop) (h0 : Pv 0 k σ H) (hl : ∀ i k σ H, i ≤ xs.length → Pv i k σ H → SqT K H a xs)
    (hs : ∀ i x k σ H, xs[i]? = some x → Pv i k σ H → g x σ H fun σ2 H2 => tb { D with nx := Pv (i + 1), ct := Pv (i + 1), bk := D.nx } k σ2 H2) (hd : ∀ k σ H, Pv xs.length k σ H → D.nx k σ H) :
    ∃ W : Nat → Nat → Kg → L2.St → Hp → Prop, (∃ m, W 0 m k σ H) ∧ ∀ i m k σ H, W i m k σ H →
      ((Itt K a).stop i H ∧ D.nx k σ H) ∨ ((Itt K a).go i H ∧ ∃ N : Kg → L2.St → Hp → Prop, (∀ k' σ' H', N k' σ' H' → ∃ m', m' < m ∧ W (i + 1) m' k' σ' H') ∧ ∀ x H', (Itt K a).yld i H x H' → g x σ H' fun σ2 H2 => tb { D with nx := N, ct := N, bk := D.nx } k σ2 H2) := by
  refine ⟨fun i m k σ H => m = xs.length - i ∧ i ≤ xs.length ∧ Pv i k σ H, ⟨xs.length, by simp, Nat.zero_le _, h0⟩, ?_⟩
  rintro i m k σ H ⟨rfl, hi, p⟩
  have q := hl i k σ H hi p
  by_cases hlt : i < xs.length
  · refine .inr ⟨⟨xs, xs[i], q, by simp [hlt]⟩, Pv (i + 1), fun ys' σ' H' p' => ⟨xs.length - (i + 1), by omega, rfl, hlt, p'⟩, fun x H' y => ?_⟩
    obtain ⟨e, y⟩ := y
    subst e
    exact hs i x k σ _ (y xs q) p
  · have e : i = xs.length := by omega
    subst e
    exact .inl ⟨⟨xs, q, Nat.le_refl _⟩, hd k σ H p⟩
end G3

/-! A generator def by its body: first what hands out nothing and may raise, then the rest beside a free consumer. -/
namespace G3
open PySem PySem.Spec PyProof.Rows GenW L2
/-- ρ says less than (H, h) -/
structure Sub (ρ : Rn) (H : Hp) (h : Heap) : Prop where
  sub : ∀ b o, ρ.s.heap.get? b = some o → h.get? b = some o
  nn : ∀ b o, ρ.s.heap.get? b = some o → ρ.H b = none → H b = none
  tups : ∀ b xs, ρ.H b = some (.tup xs) → H b = some (.tup xs)
  frzs : ∀ b o u, ρ.H b = some (.frz o u) → H b = some (.frz o u)
  tbls : ∀ b ps, ρ.H b = some (.tbl ps) → ∃ more, H b = some (.tbl (ps ++ more))
theorem Sub.un {ρ : Rn} {H H' : Hp} {h h' : Heap} {fs ex : List Addr} (S : Sub ρ H h) (u : Un fs ex H H' h h') : Un fs ex ρ.H H' ρ.s.heap h' where
  keep := fun b o e n nf nx => u.keep b o (S.sub b o e) (S.nn b o e n) nf nx
  slot := fun b o e n mf nx => u.slot b o (S.sub b o e) (S.nn b o e n) mf nx
  free := fun b o e n nx => u.free b o (S.sub b o e) (S.nn b o e n) nx
  there := fun b o e nx => u.there b o (S.sub b o e) nx
  tups := fun b xs e => u.tups b xs (S.tups b xs e)
  frzs := fun b o x e => u.frzs b o x (S.frzs b o x e)
  tbls := fun b ps e => by
    obtain ⟨m1, e1⟩ := S.tbls b ps e
    obtain ⟨m2, e2⟩ := u.tbls b _ e1
    exact ⟨m1 ++ m2, by rw [e2, Array.append_assoc]⟩
structure Ren (X : Cx) (ρ : Rn) : Prop where
  sub : Sub ρ X.H_0 X.s_0.heap
  sz : ρ.s.heap.objs.size = X.s_0.heap.objs.size
  os : ρ.s.os = X.s_0.os
  bs : ∀ b o, X.base.get? b = some o → ρ.s.heap.get? b = some o ∧ ρ.H b = none
  fr : ∀ b ∈ X.fs, ρ.H b = none ∧ ∀ o, X.s_0.heap.get? b = some o → ρ.s.heap.get? b = some o
theorem frames_at {base h h' : Heap} : ∀ {l : List Env}, h.FunFrames base l → (∀ b ∈ frs l, ∃ o', h'.get? b = some o' ∧ ∀ vs, o'.data ≠ .fields vs) → h'.FunFrames base l
  | [], _, _ => trivial
  | env :: r, ⟨hk, ⟨L, o, hf, hn, _, _⟩, hr⟩, k => by
    have sub : ∀ b ∈ frs r, b ∈ frs (env :: r) := fun b m => by
      unfold frs
      rw [List.filterMap_cons, hf]
      exact List.mem_cons_of_mem _ m
    obtain ⟨o', e, d⟩ := k L (by unfold frs; rw [List.filterMap_cons, hf]; exact List.mem_cons_self)
    exact ⟨hk, ⟨L, o', hf, hn, e, d⟩, frames_at hr fun b m => k b (sub b m)⟩
theorem Ren.inv {X : Cx} {ρ : Rn} {ip : List (Addr × Obj)} {σ : L2.St} {H : Hp} {s : Shared} (N : Ren X ρ) (hp : X.pn = ρ.pn) (hex : X.ex = []) (I : Inv X ip σ H s) : Inv (on X ρ) ip σ H s := by
  have ok := I.ok
  have noex : ∀ b : Addr, b ∉ X.ex := fun b z => by rw [hex] at z; cases z
  refine ⟨⟨ok.mod, ok.kind, ok.glob, ok.blt, ?_, ok.inj, ok.has, fun x c h e => ?_, ok.hd, ok.frames, ok.stk, ok.exf, N.bs, ?_, ok.noex, ok.exfs, ?_, fun b m => (N.fr b m).1⟩, I.os.trans N.os.symm, I.bare, N.sub.un I.base, I.loc, I.cell, I.free, I.freeC, ?_, I.hok, I.len⟩
  · show ρ.s.heap.objs.size ≤ _
    rw [N.sz]; exact ok.above
  · show ρ.s.heap.objs.size ≤ _
    rw [N.sz]; exact ok.cab x c h e
  · show _ ≤ ρ.s.heap.objs.size
    rw [N.sz]; exact ok.bsz
  · refine frames_at ok.funs fun b m => ?_
    obtain ⟨_, o, e, d⟩ := ok.funs.mem m
    exact ⟨o, (N.fr b m).2 o e, d⟩
  · intro p q
    have q : p ∈ ρ.pn ++ ip := q
    rw [← hp] at q
    exact I.pin p q
theorem Ren.sp {X : Cx} {ρ : Rn} {ip : List (Addr × Obj)} {D : Ends} {f : Flow} {s : Shared} (N : Ren X ρ) (hp : X.pn = ρ.pn) (hex : X.ex = []) (h : SP X ip D f s) : SP (on X ρ) ip D f s := by
  cases f with
  | next => obtain ⟨σ, H, I, q⟩ := h; exact ⟨σ, H, N.inv hp hex I, q⟩
  | brk => obtain ⟨σ, H, I, q⟩ := h; exact ⟨σ, H, N.inv hp hex I, q⟩
  | cont => obtain ⟨σ, H, I, q⟩ := h; exact ⟨σ, H, N.inv hp hex I, q⟩
  | ret u => obtain ⟨v, σ, H, I, r, q⟩ := h; exact ⟨v, σ, H, N.inv hp hex I, r, q⟩
/-- the first statements hand out nothing and may raise; then the rest -/
structure GT0 (X : Cx) (F : Fm) (Y : Tn) (l : List Stmt) (t : T2) : Prop where
  run : ∀ (A : Around) (R : GenEnd) (n : Nat) (k : Kg) (s₀ : Shared) (c : Code) (fs : List Frame) (K : Flow → Sem PySem.Fin) (J : Value → Sem PySem.Fin) (gd : Bool → Bool) (lv : List Value → List Value) (s : Shared) (σ : L2.St) (H : Hp) (D : Ends2) (ρ : Rn),
    Ren X ρ → X.pn = ρ.pn → X.ex = [] → F s₀ k.2 ρ → Pl X A c fs gd → n + k.1 = sizeLine → Nx X F Y [] A R c fs K J D → (∀ e t, X.xe e t → Seg (model X.prog X.w) A R (Pr X F Y) n s₀ c (J e) fs t) → Inv X [] σ H s → t D k σ H →
      Seg (model X.prog X.w) A R (Pr X F Y) n s₀ c ((execs l X.env).wrap K J gd lv) fs s
section
variable {X : Cx} {F : Fm} {Y : Tn} {st : Stmt} {rest : List Stmt}
theorem gt0_rest {t : T2} (h : GTs X F Y rest t) : GT0 X F Y rest t := by
  refine ⟨fun A R n k s₀ c fs K J gd lv s σ H D ρ N hp hex hF g hn q _ I ht => ?_⟩
  exact h.run A [] R n k s₀ c fs K J gd lv s σ H D ρ hF (fun _ _ _ z => nomatch z) g hn q (N.inv hp hex I) ht
def tPs (t : TS) (u : T2) : T2 := fun D k σ H => t { nx := fun σ' H' => u D k σ' H', rt := D.rt k, bk := D.bk k, ct := D.ct k } σ H
theorem gt0_cons {t : TS} {u : T2} (a : PS X st t) (b : GT0 X F Y rest u) : GT0 X F Y (st :: rest) (tPs t u) := by
  refine ⟨fun A R n k s₀ c fs K J gd lv s σ H D ρ N hp hex hF g hn q qe I ht => seg_execs_cons (seg_wrap ?_)⟩
  rw [g.over]
  refine wpAny_mono (a.run _ s σ H _ I ht) (fun f t hs => ?_) fun x t hx => qe x t hx
  have hs' := N.sp hp hex hs
  cases f with
  | next =>
    obtain ⟨σ1, H1, I1, q1⟩ := hs
    exact b.run A R n k s₀ c fs K J gd lv t σ1 H1 D ρ N hp hex hF g hn q qe I1 q1
  | brk => exact q.ok n k s₀ t .brk ρ hn hF (fun _ _ _ z => nomatch z) hs'
  | cont => exact q.ok n k s₀ t .cont ρ hn hF (fun _ _ _ z => nomatch z) hs'
  | ret u => exact q.ok n k s₀ t (.ret u) ρ hn hF (fun _ _ _ z => nomatch z) hs'
end
/-- the arguments, the heap, the consumer's locals, its turn, what is wanted at the end, the exception -/
abbrev Sp3 := List V → Hp → L2.St → Tn → (L2.St → Hp → Prop) → XK → Prop
def End3 (X : Cx) (F : Fm) (Q : L2.St → Hp → Prop) (outer : List Env) (H : Hp) (s : Shared) (E : XK) (a : Addr) (g : Nat) : GenEnd := fun _ s₀ r s1 =>
  ((r = .ok (.ret .none) ∨ r = .ok .next) ∧ ∃ ρ ip σ H', ∃ γ : L2.St, F s₀ γ ρ ∧ Inv (on X ρ) ip σ H' s1 ∧ Q γ H') ∨ ∃ e, r = .error e ∧ CX X.prog X.w outer H s E e s1 ∧ s1.heap.IsGen a g
abbrev FOk (F : Fm) (s : Shared) : Prop := ∀ s₀ γ ρ, F s₀ γ ρ → ρ.s.heap.objs.size = s.heap.objs.size ∧ ρ.xe = fun _ _ => False
/-- what the call gives: a generator that has not begun -/
structure Made3 (P : Program) (w : World) (cx : Around → XK → List (Addr × Obj) → Cx) (k : Nat) (outer : List Env) (s : Shared) (H : Hp) (sp : Sp3) (vs : List V) (s' : Shared) (a : Addr) (g : Nat) (c : Code) (go : Obj) (gl : Addr) : Prop where
  gl1 : s.heap.objs.size ≤ gl
  gl2 : gl < a
  a2 : a < s'.heap.objs.size
  at_ : s'.heap.get? a = some go
  cls : go.cls = .type "generator"
  data : ∃ vs, go.data = .fields vs
  gen : ∀ h : Heap, h.get? a = some go → h.IsGen a g
  glo : ∃ o, s'.heap.get? gl = some o
  st : s'.gens[g]? = some (.fresh c)
  os : s'.os = s.os
  bare : AllBare s'.gens
  lim : s'.heap.NoLimit
  keep : ∀ b o, s.heap.get? b = some o → s'.heap.get? b = some o
  wake : ∀ (A : Around) (s2 : Shared) (H2 : Hp) (γ : L2.St) (Y : Tn) (Q : L2.St → Hp → Prop) (E : XK) (F : Fm) (ρ : Rn), Room k A → A.frames = some outer → (∀ b o, s'.heap.get? b = some o → s2.heap.get? b = some o) → s2.os = s.os → AllBare s2.gens → HOk P w H2 s2.heap →
    (∀ b, b < s'.heap.objs.size → H2 b = H b) → Ren (cx A E ρ.pn) ρ → (∀ p ∈ ρ.pn, s2.heap.get? p.1 = some p.2 ∧ H2 p.1 = none ∧ p.1 ≠ gl ∧ p.1 ∉ frs outer ∧ ∀ v, p.2.data ≠ .cell v) → (a, go) ∈ ρ.pn → FOk F s → F s2 γ ρ → Mono Y → sp vs H2 γ Y Q E →
      Seg (model P w) A (End3 (cx A E []) F Q outer H s E a g) (Pr (cx A E []) F Y) sizeLine s2 c ((model P w).den c) [] s2
def IsMade (P : Program) (w : World) (cx : Around → XK → List (Addr × Obj) → Cx) (k : Nat) (outer : List Env) (s : Shared) (H : Hp) (sp : Sp3) (vs : List V) (u : Value) (s' : Shared) : Prop := ∃ a g c go, u = .ref a ∧ Made3 P w cx k outer s H sp vs s' a g c go s.heap.objs.size
structure GFn3 (P : Program) (w : World) (K : PySem.W.Frag) (mg : Str → Option Value) (base : Heap) (N : List Str) (qual : Str) (scope : Scope) (cdv : Value) (k : Nat) (f : Addr) (fd : FuncData) (ps : List Str) (sp : Sp3) : Prop where
  run : ∀ (A : Around) (outer : List Env) (s : Shared) (H : Hp) (args : Args) (us : List Value) (vs : List V), vs.length = ps.length → Room k A → Env0 P w K mg base A outer s H → BindsTo s fd args (ps.zip us) → Vals vs us →
    codeAny (model P w) A (.call (.ref f) args) (fun r s' => match r with | .ok (.ret u) => IsMade P w (fun A E pn => gcxOf P w K mg base N qual scope f cdv A outer s H E pn) k outer s H sp vs u s' | _ => False) s
theorem gfn3_of {P : Program} {w : World} {K : PySem.W.Frag} {mg : Str → Option Value} {base : Heap} {k : Nat} {f : Addr} {name qual : Str} {params : Arguments} {body : List Stmt} {scope : Scope} {dV kV doc pm cdv ct oc : Value} {an od : Option Addr}
    {osl : Array (Option Value)} {N ps : List Str} {sp : Sp3} (lk : K.lookup f = some ⟨oc, od, .func (PySem.W.fnOf name qual params body scope dV kV doc pm an cdv ct), osl⟩) (hcd : PySem.W.codeIn K cdv qual = true) (S : GScope N ps scope)
    (hbody : ∀ (A : Around) (outer : List Env) (s : Shared) (H H2 : Hp) (vs : List V) (γ : L2.St) (Y : Tn) (Q : L2.St → Hp → Prop) (E : XK) (pn : List (Addr × Obj)) (F : Fm), Room k (A.deeper (envOfC qual scope s.heap.objs.size f cdv)) → FOk F s → Mono Y → sp vs H2 γ Y Q E →
      ∃ t, GT0 (gcxOf P w K mg base N qual scope f cdv A outer s H E pn) F Y body t ∧ t { nx := fun k _ H' => Q k.2 H', rt := fun k v H' => v = .non ∧ Q k.2 H' } (0, γ) (start N vs) H2) :
    GFn3 P w K mg base N qual scope cdv (k + 1) f (PySem.W.fnOf name qual params body scope dV kV doc pm an cdv ct) ps sp := by
  refine ⟨fun A outer s H args us vs hl hr e0 hb r => ?_⟩
  have KX : K.In s.heap := e0.mod.kin.keeps fun b o e => (e0.bs b o e).1
  have lim : s.heap.NoLimit := e0.mod.nolimit.keeps fun b o e => (e0.bs b o e).1
  have hkind : ∀ y ∈ ps.zip us, scope.names.lookup y.1 = some .local ∨ (scope.names.lookup y.1 = some .cell ∧ ((cellsFrom (s.heap.objs.size + 1) scope.names []).lookup y.1).isSome = true) := fun ⟨n, v⟩ hy => by
    rcases S.par n (List.of_mem_zip hy).1 with q | q
    · exact .inl q
    · exact .inr ⟨q, PySem.W.cellsFrom_some _ _ _ (.inl q)⟩
  refine codeAny_call_generator hr.depth (KX _ _ lk) rfl S.co S.gen rfl (PySem.W.codeRec_of KX hcd) (hb _ _ _ _ ?_)
  refine wpAny_newFunctionEnv_cells S.kind hkind fun env he s1 x => ?_
  subst he
  have lim1 : s1.heap.NoLimit := lim.keeps x.toInCall.keep
  refine ⟨lim1, ?_⟩
  obtain ⟨h1, tk, es1, hk1⟩ := x.done
  have os1 : s1.os = s.os := by rw [es1]
  have gen1 : s1.gens = s.gens := by rw [es1]
  have lt1 : s.heap.objs.size < s1.heap.objs.size := x.toInCall.ns.lt
  have kp1 : ∀ b o, s.heap.get? b = some o → s1.heap.get? b = some o := x.toInCall.keep
  have main : ∀ (go : Obj) (nm qn : Value) (tk2 : Nat), go.cls = .type "generator" → go.data = .fields #[.int s1.gens.size 0, nm, qn] → go.slots = #[] → (∀ h : Heap, (h.push go).get? h.objs.size = some go) →
      IsMade P w (fun A E pn => gcxOf P w K mg base N qual scope f cdv A outer s H E pn) (k + 1) outer s H sp vs (.ref s1.heap.objs.size) { s1 with gens := s1.gens.push (.fresh (.func body (envOfC qual scope s.heap.objs.size f cdv))), toks := tk2, heap := s1.heap.push go } := by
    intro go nm qn tk2 hgc hgd0 hgs hgp
    have hpushed : (s1.heap.push go).get? s1.heap.objs.size = some go := hgp _
    have hgen : ∀ h : Heap, h.get? s1.heap.objs.size = some go → h.IsGen s1.heap.objs.size s1.gens.size := fun h e => ⟨go, nm, qn, e, hgc, hgd0, hgs⟩
    have szp : (s1.heap.push go).objs.size = s1.heap.objs.size + 1 := Heap.size_push ..
    refine ⟨s1.heap.objs.size, s1.gens.size, _, go, rfl, Nat.le_refl _, lt1, ?_, hpushed, hgc, ⟨_, hgd0⟩, hgen, ?_, Array.getElem?_push_size .., os1, AllBare.push (by rw [gen1]; exact e0.bare) rfl, lim1.keeps fun b o e => Heap.get?_push_of_some _ e, fun b o e => Heap.get?_push_of_some _ (kp1 b o e), ?_⟩
    · show _ < (s1.heap.push _).objs.size
      rw [szp]
      exact Nat.lt_succ_self _
    · obtain ⟨o, es, ep, e, _⟩ := x.toInCall.ns
      exact ⟨o, Heap.get?_push_of_some _ e⟩
    intro Aw s2 H2 γ Y Q E F ρ hrw hfr hk2 hos hba hok2 hsm hN hpn hmem hFO hF mono hsp
    have e0w : Env0 P w K mg base Aw outer s H := ⟨hfr, e0.mod, e0.bs, e0.bsz, e0.funs, e0.frf, e0.hok, e0.bare⟩
    obtain ⟨t, ht, hq⟩ := hbody Aw outer s H H2 vs γ Y Q E ρ.pn F (hrw.deeper _) hFO mono hsp
    have I1 : Inv (gcxOf P w K mg base N qual scope f cdv Aw outer s H E []) [] (start N vs) H s1 := inv_startG S hrw.hd e0w hl r x
    have kp2 : ∀ b o, s1.heap.get? b = some o → s2.heap.get? b = some o := fun b o e => hk2 b o (Heap.get?_push_of_some _ e)
    have sm1 : ∀ b, b < s1.heap.objs.size → H2 b = H b := fun b h => hsm b (by show _ < (s1.heap.push go).objs.size; rw [szp]; exact Nat.lt_succ_of_lt h)
    have smS : ∀ b u, H b = some u → H2 b = some u := fun b u e => by rw [sm1 b (I1.hok b u e).lt]; exact e
    have I2 : Inv (gcxOf P w K mg base N qual scope f cdv Aw outer s H E []) [] (start N vs) H2 s2 :=
      I1.call' (ch := []) (hos.trans os1.symm) ⟨fun b o e _ _ _ => kp2 b o e, fun b o e _ _ _ => ⟨o.slots, kp2 b o e⟩, fun b o e n _ => by rw [sm1 b (Heap.lt_size e)]; exact n, fun b o e _ => ⟨o, kp2 b o e⟩, fun b xs e => smS b _ e, fun b o u e => smS b _ e, fun b ps e => ⟨#[], by rw [smS b _ e]; simp⟩⟩ hok2 hba fun b z => by simp at z
    have I3 : Inv (gcxOf P w K mg base N qual scope f cdv Aw outer s H E ρ.pn) [] (start N vs) H2 s2 := Inv.pinnedG I2 fun p hp => by
      rw [List.append_nil] at hp
      exact hpn p hp
    refine seg_func ?_
    refine ht.run Aw _ sizeLine (0, γ) s2 _ [] _ _ id id s2 (start N vs) H2 _ ρ hN rfl rfl hF ⟨over_func, rfl, rfl, rfl⟩ (Nat.add_zero _) ⟨fun n k' s₀ t' fl ρ' hn hF _ hs => ?_, fun n s₀ γ' e t' ρ' hF hx => ?_⟩ (fun e t' hx => ?_) I3 hq
    · cases fl with
      | next =>
        obtain ⟨σ', H', I', hQ⟩ := hs
        exact seg_end (.ok (.ret .none)) (.inl ⟨.inl rfl, ρ', [], σ', H', k'.2, hF, I', hQ⟩)
      | brk => obtain ⟨_, _, _, q⟩ := hs; exact False.elim q
      | cont => obtain ⟨_, _, _, q⟩ := hs; exact False.elim q
      | ret u =>
        obtain ⟨v, σ', H', I', rv, ev, hQ⟩ := hs
        subst ev
        have eu : u = Value.none := rv
        subst eu
        exact seg_end (.ok (.ret .none)) (.inl ⟨.inl rfl, ρ', [], σ', H', k'.2, hF, I', hQ⟩)
    · rw [(hFO _ _ _ hF).2] at hx
      exact hx.elim
    · refine seg_wrap ?_
      rw [over_func]
      refine wpAny_mono (show wpAny (model P w) (Aw.deeper (envOfC qual scope s.heap.objs.size f cdv)) (leaving (envOfC qual scope s.heap.objs.size f cdv) e) (fun _ s'' => CX P w outer H s E e s'' ∧ ∀ p ∈ ρ.pn, s''.heap.get? p.1 = some p.2) (fun _ _ => False) t' from hx) (fun _ s'' q => ?_) fun _ s'' q => q.elim
      exact seg_end (.error e) (.inr ⟨e, rfl, q.1, hgen _ (q.2 _ hmem)⟩)
  exact main _ _ _ _ rfl rfl rfl fun h => Heap.get?_push_size _ rfl
/-- the call of such a def -/
theorem run_gfn3 {X : Cx} {N : List Str} {qual : Str} {scope : Scope} {cdv : Value} {k : Nat} {f : Addr} {fd : FuncData} {ps : List Str} {sp : Sp3} {ds : List Value} {dvs : List V} {pins : List (Addr × Obj)} {σ : L2.St} {H : Hp} {s : Shared} {us : List Value} {vs : List V} {E1 : Value → Shared → Prop}
    (F : GFn3 X.prog X.w X.K X.mg X.base N qual scope cdv k f fd ps sp) (hr : Room k X.A) (hb : Binds X.K fd ps ds) (hd : Vals dvs ds) (I : Inv X pins σ H s) (r : Vals vs us) (hl : (vs ++ dvs).length = ps.length) :
    wpAny (model X.prog X.w) X.A (call (.ref f) us) (fun u s' => IsMade X.prog X.w (fun A E pn => gcxOf X.prog X.w X.K X.mg X.base N qual scope f cdv A X.stack s H E pn) k X.stack s H sp (vs ++ dvs) u s') E1 s := by
  have r2 : Vals (vs ++ dvs) (us ++ ds) := r.append hd
  have hl2 : (us ++ ds).length = ps.length := by rw [← r2.length]; exact hl
  refine wpAny_call (codeAny_mono (F.run X.A X.stack s H ⟨us, []⟩ (us ++ ds) (vs ++ dvs) hl hr I.env0 (hb s us I.kIn hl2) r2) fun r s' hq => ?_)
  cases r with
  | error e => exact False.elim hq
  | ok fl =>
    cases fl with
    | ret u => exact hq
    | next => exact False.elim hq
    | brk => exact False.elim hq
    | cont => exact False.elim hq
end G3

/-! next(g), where the generator that has handed out an item is told to be suspended; it may raise. -/
namespace Gn3
open PySem PySem.Spec PyProof.Rows GenW L2
def Susp (gs : GenState) : Prop := ∃ k l c p fs cl, gs = .suspended k l c p fs cl
/-- what may be asked of it then -/
def After (M : Model) (A : Around) (R : GenEnd) (Y : Protocol) (gs : GenState) : Nat → Resume → Shared → Prop
  | 0 => fun _ _ => False
  | m + 1 => fun r s => gs.Goes M A R Y m r s
theorem resume2 {M : Model} {A : Around} {R : GenEnd} {Y : Protocol} {n : Nat} {E : Value → Shared → Prop} {s : Shared} {g : Nat} {gs : GenState} {r : Resume} {l : List Value} {α : Type} {k : GenResult → Sem α} {Q : α → Shared → Prop} (hg : s.gens[g]? = some gs)
    (hgo : gs.Goes M A R Y n r (s.setGen g .running)) (hR : ∀ x s₁, R n (s.setGen g .running) x s₁ → wpAny M A (k (End.ret x).result) Q E (s₁.setGen g .finished))
    (hY : ∀ v s₁ gs', Susp gs' → gs'.bare = true → Y (n - 1) (s.setGen g .running) v s₁ (After M A R Y gs' n) → wpAny M A (k (.yielded v)) Q E (s₁.setGen g gs')) : wpAny M A (.resume g r l k) Q E s := by
  intro Γ p hΓ
  rw [Sem.wp_resume]
  have woken : ∀ c, (Γ.wake c p).Woken A := fun c => hΓ.wake c p
  have fin : ∀ e₁ s₁, SegEnd R Y n (Seg.next M A R Y n) (s.setGen g .running) e₁ s₁ → e₁.quiet = true ∧ Sem.wp M Γ (k e₁.result) (fun a _ s' => Q a s') (fun e _ s' => E e s') p (s₁.setGen g e₁.genState) := by
    intro e₁ s₁ he
    cases e₁ with
    | ret x => exact ⟨rfl, hR x s₁ he Γ p hΓ⟩
    | susp v g₀ l₀ k₀ c₀ p₀ fs₀ =>
      refine ⟨he.1, hY v s₁ _ ⟨_, _, _, _, _, _, rfl⟩ (End.bare_of_quiet he.1) ?_ Γ p hΓ⟩
      cases n <;> exact he.2
  cases gs with
  | fresh c =>
    obtain ⟨rfl, hs⟩ := hgo
    obtain ⟨e₁, s₁, hr, he⟩ := seg_iff.mp hs (Γ.wake c p) p rfl (woken c)
    obtain ⟨q1, q2⟩ := fin e₁ s₁ he
    exact ⟨_, _, by unfold Wakes; rw [hg]; exact ⟨e₁, s₁, hr, q1, rfl, rfl⟩, q2⟩
  | suspended k₀ l₀ c₀ p₀ fs₀ cl =>
    obtain ⟨e₁, s₁, hr, he⟩ := seg_iff.mp hgo (Γ.wake c₀ p) p₀ rfl (woken c₀)
    obtain ⟨q1, q2⟩ := fin e₁ s₁ he
    exact ⟨_, _, by unfold Wakes; rw [hg]; exact ⟨e₁, s₁, hr, q1, rfl, rfl⟩, q2⟩
  | running => exact hgo.elim
  | finished => exact hgo.elim
/-- pyNext of a generator -/
theorem next3 {P : Program} {w : World} {A : Around} {E : Value → Shared → Prop} {s : Shared} {a : Addr} {g n : Nat} {gs : GenState} {R : GenEnd} {F : Nat → Shared → Shared → Prop} {Er : Value → Shared → Prop} {Y : Protocol} {Q : Option Value → Shared → Prop} (hh : A.handled = none)
    (hl : s.heap.NoLimit) (hroom : A.depth < recursionLimit) (hg : s.heap.IsGen a g) (hgs : s.gens[g]? = some gs)
    (hR : ∀ n s₀ r s₁, R n s₀ r s₁ → ((r = .ok (.ret .none) ∨ r = .ok .next) ∧ F n s₀ s₁) ∨ ∃ e, r = .error e ∧ Er e s₁)
    (hgo : gs.Goes (model P w) A.in1 R Y n (.send .none) (s.setGen g .running))
    (hY : ∀ v s₁ gs', Susp gs' → gs'.bare = true → Y (n - 1) (s.setGen g .running) v s₁ (After (model P w) A.in1 R Y gs' n) → Q (some v) (s₁.setGen g gs'))
    (hP : ∀ s₁, F n (s.setGen g .running) s₁ → ∀ h', (∀ b o, s₁.heap.get? b = some o → h'.get? b = some o) → Q none { s₁.setGen g .finished with heap := h' })
    (hE : ∀ e s₁, Er e s₁ → s₁.heap.IsGen a g ∧ NotStop (model P w) e s₁.heap ∧ E e (s₁.setGen g .finished)) :
    wpAny (model P w) A (pyNext (.ref a)) Q E s := by
  unfold pyNext
  refine wpAny_bind (wpAny_attempt (wpAny_callSpecial?_slot (name := Str.ofString "__next__") hg.typeIs slot_gen_next
    (wpAny_call_entry slot_gen_next hg.typeIs entry_gen_next ?_ (args_gen_next _))))
  show wpAny _ A.in1 (Builtin.Generator.genWake (.ref a) (.send .none)) _ _ s
  unfold Builtin.Generator.genWake
  refine wpAny_bind (wpAny_holding (wpAny_genNumber hg (wpAny_bind (wpAny_genState hgs ?_))))
  cases gs with
  | running => exact hgo.elim
  | finished => exact hgo.elim
  | _ =>
    refine wpAny_bind (wpAny_roomToWake hl hroom ?_)
    show wpAny _ A.in1 (.resume g (.send .none) [] _) _ _ s
    refine resume2 hgs hgo (fun x s₁ hx => ?_) (fun v s₁ gs' hs hb hv => wpAny_pure ⟨v, rfl, wpAny_pure (hY v s₁ gs' hs hb hv)⟩)
    rcases hR _ _ _ _ hx with ⟨hr, hp⟩ | ⟨e, rfl, he⟩
    · have hres : End.result (.ret x) = .returned .none := by
        rcases hr with hr | hr <;> rw [hr] <;> rfl
      first | rw [hres] | simp only [hres]
      show wpAny _ A.in1 (newExc (.type "StopIteration") [] >>= _) _ _ _
      refine wpAny_bind ?_
      simp only [newExc, newTuple]
      refine wpAny_bind (wpAny_newObj_type ?_ (by size_fits))
      refine wpAny_bind (m := firstArgMember _ _) (wpAny_of_eq (a := Value.none) (by first | rfl | (simp only [firstArgMember]; rfl)) ?_)
      refine wpAny_newObj_type ?_ (by size_fits)
      simp only [raiseNew]
      refine wpAny_bind (wpAny_bind (wpAny_handled ?_))
      first | rw [show A.in1.handled = none from hh] | rw [hh]
      refine wpAny_throw ?_
      refine wpAny_bind (wpAny_isInstance (T := "StopIteration") (b := true) ⟨_, Heap.get?_push_size _ rfl, rfl⟩ isSubtype_stop ?_)
      exact wpAny_pure (hP s₁ hp _ fun b o hb => Heap.get?_push_of_some _ (Heap.get?_push_of_some _ hb))
    · obtain ⟨hg1, hns, hq⟩ := hE e s₁ he
      obtain ⟨o, nm, qn, ho, hc, hd, hsl⟩ := hg1
      show wpAny _ A.in1 (Builtin.Generator.genLeft (.ref a) e) _ _ _
      unfold Builtin.Generator.genLeft Builtin.Generator.madeByALambda
      refine wpAny_bind (wpAny_bind (wpAny_load (o := o) ho (wpAny_pure ?_)))
      refine wpAny_bind (hns _ _ _ _ rfl ?_)
      rw [Bool.and_false, if_neg Bool.false_ne_true]
      unfold Builtin.Generator.genEscaped
      first
        | refine wpAny_bind (hns _ _ _ _ rfl ?_)
        | refine wpAny_bind (wpAny_pure (wpAny_bind (hns _ _ _ _ rfl ?_)))
      rw [if_pos (show (!false) = true from rfl)]
      first
        | refine wpAny_throw ?_
        | refine wpAny_bind (wpAny_throw ?_)
      refine wpAny_bind (hns _ _ _ _ rfl ?_)
      rw [if_neg Bool.false_ne_true]
      exact wpAny_throw hq
end Gn3

/-! What a suspended generator would do next, no other run asks: put a stuck state in its place, and each run that ends well goes the same way from the real one. -/
namespace Ni
open PySem
/-- resumed, it is stuck -/
def Stk : GenState → Prop
  | .suspended k _ _ _ _ _ => ∀ r, ∃ w, k r = .unsupported w
  | _ => False
def Rl (a b : Array GenState) : Prop := a.size = b.size ∧ ∀ i : Nat, b[i]? = a[i]? ∨ ∃ z y : GenState, a[i]? = some z ∧ Stk z ∧ b[i]? = some y ∧ y.seen = z.seen ∧ y.bare = z.bare
def Nog (a : Array GenState) : Prop := ∀ (i : Nat) k l c p fs cl, a[i]? = some (.suspended k l c p fs cl) → splitAtGen fs = none
/-- stuck ones stay, on both sides -/
def Sty (a b a' b' : Array GenState) : Prop := ∀ (i : Nat) z, a[i]? = some z → Stk z → a'[i]? = some z ∧ b'[i]? = b[i]?
def EndNog : End → Prop
  | .ret _ => True
  | .susp _ _ _ _ _ _ fs => splitAtGen fs = none
theorem no_uns {M : Model} {Γ : PySem.Ctx} {p : Pos} {t : Sem PySem.Fin} {fs : List Frame} {s s' : Shared} {e : End} {w : String} (r : Runs M Γ p t fs s e s') : t = .unsupported w → False := by
  induction r <;> intro h <;> first
    | (cases h; done)
    | (rename_i ih _; exact ih h)
    | (rename_i ih; exact ih h)
theorem Sty.refl (a b : Array GenState) : Sty a b a b := fun _ _ h _ => ⟨h, rfl⟩
theorem Sty.trans {a b a1 b1 a2 b2 : Array GenState} (h : Sty a b a1 b1) (g : Sty a1 b1 a2 b2) : Sty a b a2 b2 := fun i z e k => by
  obtain ⟨h1, h2⟩ := h i z e k
  obtain ⟨g1, g2⟩ := g i z h1 k
  exact ⟨g1, g2.trans h2⟩
theorem split_app : ∀ {fs gs : List Frame}, splitAtGen fs = none → splitAtGen gs = none → splitAtGen (fs ++ gs) = none
  | [], gs, _, h => h
  | .gen .. :: _, _, h, _ => by cases h
  | .ret .. :: fs, gs, h, g => by
    unfold splitAtGen at h
    have h' : splitAtGen fs = none := by cases e : splitAtGen fs with | none => rfl | some x => rw [e] at h; cases h
    show splitAtGen (_ :: (fs ++ gs)) = none
    unfold splitAtGen
    rw [split_app h' g]
    rfl
theorem split_tail {k : Result → Sem PySem.Fin} {h g l c p kp} {fs : List Frame} (e : splitAtGen (.ret k h g l c p kp :: fs) = none) : splitAtGen fs = none := by
  unfold splitAtGen at e
  cases q : splitAtGen fs with
  | none => rfl
  | some x => rw [q] at e; cases e
theorem Rl.at_ {a b : Array GenState} {g : Nat} {x : GenState} (R : Rl a b) (h : a[g]? = some x) (n : ¬ Stk x) : b[g]? = some x := by
  rcases R.2 g with e | ⟨z, y, e, k, _, _⟩
  · rw [e, h]
  · rw [h] at e
    rw [← Option.some.inj e] at k
    exact absurd k n
theorem Rl.set {a b : Array GenState} {g : Nat} {x : GenState} (R : Rl a b) : Rl (a.setIfInBounds g x) (b.setIfInBounds g x) := by
  refine ⟨by rw [Array.size_setIfInBounds, Array.size_setIfInBounds]; exact R.1, fun i => ?_⟩
  rw [Array.getElem?_setIfInBounds, Array.getElem?_setIfInBounds, R.1]
  by_cases e : g = i
  · rw [if_pos e, if_pos e]
    exact .inl rfl
  · rw [if_neg e, if_neg e]
    exact R.2 i
theorem Nog.set {a : Array GenState} {g : Nat} {x : GenState} (N : Nog a) (hx : ∀ k l c p fs cl, x = .suspended k l c p fs cl → splitAtGen fs = none) : Nog (a.setIfInBounds g x) := fun i k l c p fs cl h => by
  rw [Array.getElem?_setIfInBounds] at h
  by_cases e : g = i
  · rw [if_pos e] at h
    split at h
    · exact hx _ _ _ _ _ _ (Option.some.inj h)
    · cases h
  · rw [if_neg e] at h
    exact N i _ _ _ _ _ _ h
theorem Sty.set {a b : Array GenState} {g : Nat} {x y : GenState} (h : a[g]? = some y) (n : ¬ Stk y) : Sty a b (a.setIfInBounds g x) (b.setIfInBounds g x) := fun i z e k => by
  have ne : g ≠ i := fun q => by
    rw [← q, h] at e
    rw [← Option.some.inj e] at k
    exact n k
  rw [Array.getElem?_setIfInBounds, Array.getElem?_setIfInBounds, if_neg ne, if_neg ne]
  exact ⟨e, rfl⟩
theorem Sty.set2 {a b a1 b1 : Array GenState} {g : Nat} {x y : GenState} (h : a[g]? = some y) (n : ¬ Stk y) (S : Sty a b a1 b1) : Sty a b (a1.setIfInBounds g x) (b1.setIfInBounds g x) := fun i z e k => by
  have ne : g ≠ i := fun q => by
    rw [← q, h] at e
    rw [← Option.some.inj e] at k
    exact n k
  obtain ⟨s1, s2⟩ := S i z e k
  rw [Array.getElem?_setIfInBounds, Array.getElem?_setIfInBounds, if_neg ne, if_neg ne]
  exact ⟨s1, s2⟩
theorem end_nog {e : End} (h : EndNog e) : ∀ k l c p fs cl, e.genState = .suspended k l c p fs cl → splitAtGen fs = none := fun k l c p fs cl q => by
  cases e with
  | ret r => cases q
  | susp v g l0 k0 c0 p0 fs0 =>
    cases q
    exact h
theorem nog_plain {x : GenState} (h : ∀ k l c p fs cl, x ≠ .suspended k l c p fs cl) : ∀ k l c p fs cl, x = .suspended k l c p fs cl → splitAtGen fs = none := fun k l c p fs cl e => absurd e (h _ _ _ _ _ _)
/-- the same run from the real states: what is stuck stays so, and the real ones stay as they were -/
theorem ni {M : Model} {Γ : PySem.Ctx} {p : Pos} {t : Sem PySem.Fin} {fs : List Frame} {s s' : Shared} {e : End} (r : Runs M Γ p t fs s e s') : ∀ b, Rl s.gens b → Nog s.gens → splitAtGen fs = none →
    ∃ b', Runs M Γ p t fs { s with gens := b } e { s' with gens := b' } ∧ Rl s'.gens b' ∧ Sty s.gens b s'.gens b' ∧ Nog s'.gens ∧ EndNog e := by
  induction r with
  | done => intro b R N _; exact ⟨b, .done, R, .refl _ _, N, trivial⟩
  | raise => intro b R N _; exact ⟨b, .raise, R, .refl _ _, N, trivial⟩
  | again hq _ ih => intro b R N F; obtain ⟨b', r', q⟩ := ih b R N F; exact ⟨b', .again hq r', q⟩
  | rule _ ih => intro b R N F; obtain ⟨b', r', q⟩ := ih b R N F; exact ⟨b', .rule r', q⟩
  | «at» _ ih => intro b R N F; obtain ⟨b', r', q⟩ := ih b R N F; exact ⟨b', .at r', q⟩
  | load ho _ ih => intro b R N F; obtain ⟨b', r', q⟩ := ih b R N F; exact ⟨b', .load ho r', q⟩
  | update ha _ ih => intro b R N F; obtain ⟨b', r', q⟩ := ih b R N F; exact ⟨b', .update ha r', q⟩
  | loadIfAlive _ ih => intro b R N F; obtain ⟨b', r', q⟩ := ih b R N F; exact ⟨b', .loadIfAlive r', q⟩
  | point _ ih => intro b R N F; obtain ⟨b', r', q⟩ := ih b R N F; exact ⟨b', .point r', q⟩
  | alloc _ ih => intro b R N F; obtain ⟨b', r', q⟩ := ih b R N F; exact ⟨b', .alloc r', q⟩
  | fresh _ ih => intro b R N F; obtain ⟨b', r', q⟩ := ih b R N F; exact ⟨b', .fresh r', q⟩
  | ask _ ih => intro b R N F; obtain ⟨b', r', q⟩ := ih b R N F; exact ⟨b', .ask r', q⟩
  | choose hn _ ih => intro b R N F; obtain ⟨b', r', q⟩ := ih b R N F; exact ⟨b', .choose hn r', q⟩
  | os _ ih => intro b R N F; obtain ⟨b', r', q⟩ := ih b R N F; exact ⟨b', .os r', q⟩
  | handled _ ih => intro b R N F; obtain ⟨b', r', q⟩ := ih b R N F; exact ⟨b', .handled r', q⟩
  | stack _ ih => intro b R N F; obtain ⟨b', r', q⟩ := ih b R N F; exact ⟨b', .stack r', q⟩
  | thread _ ih => intro b R N F; obtain ⟨b', r', q⟩ := ih b R N F; exact ⟨b', .thread r', q⟩
  | @genState g st Γ p k s e s' hg _ ih =>
    intro b R N F
    obtain ⟨b', r', q⟩ := ih b R N F
    rcases R.2 g with eb | ⟨z, y, ez, kz, ey, se, _⟩
    · exact ⟨b', .genState (show b[g]? = some st by rw [eb, hg]) r', q⟩
    · rw [hg] at ez
      obtain rfl := Option.some.inj ez
      exact ⟨b', .genState (show b[g]? = some y from ey) (by rw [se]; exact r'), q⟩
  | @newGen Γ p k s e s' c _ ih =>
    intro b R N F
    have R2 : Rl (s.gens.push (.fresh c)) (b.push (.fresh c)) := by
      refine ⟨by rw [Array.size_push, Array.size_push, R.1], fun i => ?_⟩
      rw [Array.getElem?_push, Array.getElem?_push, R.1]
      split
      · exact .inl rfl
      · exact R.2 i
    have N2 : Nog (s.gens.push (.fresh c)) := fun i k l c p fs cl h => by
      rw [Array.getElem?_push] at h
      split at h
      · cases h
      · exact N i _ _ _ _ _ _ h
    obtain ⟨b', r', q1, q2, q3⟩ := ih _ R2 N2 F
    refine ⟨b', .newGen ?_, q1, fun i z ez kz => ?_, q3⟩
    · show Runs M Γ p (k b.size) [] _ _ _
      rw [← R.1]
      exact r'
    · have li : i < s.gens.size := (Array.getElem?_eq_some_iff.mp ez).1
      have e2 : (s.gens.push (.fresh c))[i]? = some z := by rw [Array.getElem?_push, if_neg (by omega)]; exact ez
      obtain ⟨x1, x2⟩ := q2 i z e2 kz
      refine ⟨x1, x2.trans ?_⟩
      rw [Array.getElem?_push, if_neg (by rw [← R.1]; omega)]
  | call _ _ ih1 ih2 =>
    intro b R N F
    obtain ⟨b1, r1, R1, S1, N1, _⟩ := ih1 b R N rfl
    obtain ⟨b2, r2, R2, S2, q⟩ := ih2 b1 R1 N1 rfl
    exact ⟨b2, .call r1 r2, R2, S1.trans S2, q⟩
  | callSusp _ ih =>
    intro b R N F
    obtain ⟨b1, r1, R1, S1, N1, E1⟩ := ih b R N rfl
    exact ⟨b1, .callSusp r1, R1, S1, N1, split_app E1 rfl⟩
  | yield => intro b R N _; exact ⟨b, .yield, R, .refl _ _, N, rfl⟩
  | resumeFresh hg _ hq _ ih1 ih2 =>
    intro b R N F
    have hb := R.at_ hg (fun z => z)
    obtain ⟨b1, r1, R1, S1, N1, E1⟩ := ih1 _ R.set (N.set (nog_plain fun _ _ _ _ _ _ z => by cases z)) rfl
    obtain ⟨b2, r2, R2, S2, q⟩ := ih2 _ R1.set (N1.set (end_nog E1)) rfl
    exact ⟨b2, .resumeFresh hb r1 hq r2, R2, (Sty.set2 hg (fun z => z) ((Sty.set hg (fun z => z)).trans S1)).trans S2, q⟩
  | @resumeSuspended Γ p g r l k s k₀ l₀ c₀ p₀ fs cl e₁ s₁ e s' hg hr hq _ ih1 ih2 =>
    intro b R N F
    have ns : ¬ Stk (.suspended k₀ l₀ c₀ p₀ fs cl) := fun z => by
      obtain ⟨w, ew⟩ := z r
      exact no_uns hr ew
    have hb := R.at_ hg ns
    obtain ⟨b1, r1, R1, S1, N1, E1⟩ := ih1 _ R.set (N.set (nog_plain fun _ _ _ _ _ _ z => by cases z)) (N _ _ _ _ _ _ _ hg)
    obtain ⟨b2, r2, R2, S2, q⟩ := ih2 _ R1.set (N1.set (end_nog E1)) rfl
    exact ⟨b2, .resumeSuspended hb r1 hq r2, R2, (Sty.set2 hg ns ((Sty.set hg ns).trans S1)).trans S2, q⟩
  | resumeJustStarted hg hv _ ih =>
    intro b R N F
    obtain ⟨b', r', q⟩ := ih b R N F
    exact ⟨b', .resumeJustStarted (R.at_ hg (fun z => z)) hv r', q⟩
  | resumeThrowFresh hg _ ih =>
    intro b R N F
    obtain ⟨b', r', R', S', q⟩ := ih _ R.set (N.set (nog_plain fun _ _ _ _ _ _ z => by cases z)) F
    exact ⟨b', .resumeThrowFresh (R.at_ hg (fun z => z)) r', R', (Sty.set hg (fun z => z)).trans S', q⟩
  | resumeRunning hg _ ih =>
    intro b R N F
    obtain ⟨b', r', q⟩ := ih b R N F
    exact ⟨b', .resumeRunning (R.at_ hg (fun z => z)) r', q⟩
  | resumeFinished hg _ ih =>
    intro b R N F
    obtain ⟨b', r', q⟩ := ih b R N F
    exact ⟨b', .resumeFinished (R.at_ hg (fun z => z)) r', q⟩
  | segRet _ _ ih1 ih2 =>
    intro b R N F
    obtain ⟨b1, r1, R1, S1, N1, _⟩ := ih1 b R N rfl
    obtain ⟨b2, r2, R2, S2, q⟩ := ih2 b1 R1 N1 (split_tail F)
    exact ⟨b2, .segRet r1 r2, R2, S1.trans S2, q⟩
  | segGen _ _ _ _ => intro b R N F; cases F
  | segSuspOut hs _ ih =>
    intro b R N F
    obtain ⟨b1, r1, R1, S1, N1, E1⟩ := ih b R N rfl
    exact ⟨b1, .segSuspOut hs r1, R1, S1, N1, split_app E1 F⟩
  | segSuspGen hs _ _ _ _ _ => intro b R N F; rw [F] at hs; cases hs
theorem push_all {a b : Array GenState} {c : Code} (R : Rl a b) (N : Nog a) : Rl (a.push (.fresh c)) (b.push (.fresh c)) ∧ Nog (a.push (.fresh c)) ∧ Sty a b (a.push (.fresh c)) (b.push (.fresh c)) := by
  refine ⟨⟨by rw [Array.size_push, Array.size_push, R.1], fun i => ?_⟩, fun i k l c p fs cl h => ?_, fun i z ez kz => ?_⟩
  · rw [Array.getElem?_push, Array.getElem?_push, R.1]
    split
    · exact .inl rfl
    · exact R.2 i
  · rw [Array.getElem?_push] at h
    split at h
    · cases h
    · exact N i _ _ _ _ _ _ h
  · have li : i < a.size := (Array.getElem?_eq_some_iff.mp ez).1
    refine ⟨by rw [Array.getElem?_push, if_neg (by omega)]; exact ez, ?_⟩
    rw [Array.getElem?_push, if_neg (by rw [← R.1]; omega)]
theorem wakes_ni {M : Model} {Γ : PySem.Ctx} {p : Pos} {g : Nat} {r : Resume} {s s' : Shared} {res : GenResult} (h : Wakes M Γ p g r s res s') : ∀ b, Rl s.gens b → Nog s.gens →
    ∃ b', Wakes M Γ p g r { s with gens := b } res { s' with gens := b' } ∧ Rl s'.gens b' ∧ Sty s.gens b s'.gens b' ∧ Nog s'.gens := by
  intro b R N
  unfold Wakes at h
  split at h
  · exact h.elim
  · rename_i c hg
    have hb := R.at_ hg (fun z => z)
    split at h
    · obtain ⟨e1, s1, r1, hq, rfl, rfl⟩ := h
      obtain ⟨b1, r2, R1, S1, N1, E1⟩ := ni r1 _ R.set (N.set (nog_plain fun _ _ _ _ _ _ z => by cases z)) rfl
      refine ⟨b1.setIfInBounds g e1.genState, ?_, R1.set, Sty.set2 hg (fun z => z) ((Sty.set hg (fun z => z)).trans S1), N1.set (end_nog E1)⟩
      unfold Wakes
      rw [show ({ s with gens := b } : Shared).gens[g]? = some (.fresh c) from hb]
      exact ⟨e1, _, r2, hq, rfl, rfl⟩
    · obtain ⟨rfl, rfl⟩ := h
      refine ⟨b, ?_, R, .refl _ _, N⟩
      unfold Wakes
      rw [show ({ s' with gens := b } : Shared).gens[g]? = some (.fresh c) from hb]
      rename_i v nv
      cases v <;> first | exact ⟨rfl, rfl⟩ | exact (nv rfl).elim
    · obtain ⟨rfl, rfl⟩ := h
      refine ⟨b.setIfInBounds g .finished, ?_, R.set, Sty.set hg (fun z => z), N.set (nog_plain fun _ _ _ _ _ _ z => by cases z)⟩
      unfold Wakes
      rw [show ({ s with gens := b } : Shared).gens[g]? = some (.fresh c) from hb]
      exact ⟨rfl, rfl⟩
  · rename_i k₀ l₀ c₀ p₀ fs cl hg
    obtain ⟨e1, s1, r1, hq, rfl, rfl⟩ := h
    have ns : ¬ Stk (.suspended k₀ l₀ c₀ p₀ fs cl) := fun z => by
      obtain ⟨w, ew⟩ := z r
      exact no_uns r1 ew
    have hb := R.at_ hg ns
    obtain ⟨b1, r2, R1, S1, N1, E1⟩ := ni r1 _ R.set (N.set (nog_plain fun _ _ _ _ _ _ z => by cases z)) (N _ _ _ _ _ _ _ hg)
    refine ⟨b1.setIfInBounds g e1.genState, ?_, R1.set, Sty.set2 hg ns ((Sty.set hg ns).trans S1), N1.set (end_nog E1)⟩
    unfold Wakes
    rw [show ({ s with gens := b } : Shared).gens[g]? = some (.suspended k₀ l₀ c₀ p₀ fs cl) from hb]
    exact ⟨e1, _, r2, hq, rfl, rfl⟩
  · rename_i hg
    obtain ⟨rfl, rfl⟩ := h
    refine ⟨b, ?_, R, .refl _ _, N⟩
    unfold Wakes
    rw [show ({ s' with gens := b } : Shared).gens[g]? = some .running from R.at_ hg (fun z => z)]
    exact ⟨rfl, rfl⟩
  · rename_i hg
    obtain ⟨rfl, rfl⟩ := h
    refine ⟨b, ?_, R, .refl _ _, N⟩
    unfold Wakes
    rw [show ({ s' with gens := b } : Shared).gens[g]? = some .finished from R.at_ hg (fun z => z)]
    exact ⟨rfl, rfl⟩
/-- what holds at the end from the stuck states, where the real ones go beside -/
def Bs (a b : Array GenState) (P : Shared → Prop) : Shared → Prop := fun s'' => ∃ s' b', s'' = { s' with gens := b' } ∧ P s' ∧ Rl s'.gens b' ∧ Sty a b s'.gens b'
theorem Bs.after {a b a1 b1 : Array GenState} {P : Shared → Prop} {s : Shared} (S : Sty a b a1 b1) (h : Bs a1 b1 P s) : Bs a b P s := by
  obtain ⟨s', b', e, q, R, S'⟩ := h
  exact ⟨s', b', e, q, R, S.trans S'⟩
theorem wp_mono' {α : Type} {M : Model} {Γ : PySem.Ctx} (t : Sem α) : ∀ {Q Q' : α → Pos → Shared → Prop} {E E' : Value → Pos → Shared → Prop} {p : Pos} {s : Shared}, (∀ a p s, Q a p s → Q' a p s) → (∀ a p s, E a p s → E' a p s) → Sem.wp M Γ t Q E p s → Sem.wp M Γ t Q' E' p s := by
  induction t with
  | pure a => intro Q Q' E E' p s hq he h; rw [Sem.wp] at h ⊢; exact hq _ _ _ h
  | raise e => intro Q Q' E E' p s hq he h; rw [Sem.wp] at h ⊢; exact he _ _ _ h
  | unsupported w => intro Q Q' E E' p s hq he h; rw [Sem.wp] at h; exact h.elim
  | finish w => intro Q Q' E E' p s hq he h; rw [Sem.wp] at h; exact h.elim
  | rule _ k ih => intro Q Q' E E' p s hq he h; rw [Sem.wp] at h ⊢; exact ih _ hq he h
  | «at» _ k ih => intro Q Q' E E' p s hq he h; rw [Sem.wp] at h ⊢; exact ih _ hq he h
  | load a _ k ih => intro Q Q' E E' p s hq he h; rw [Sem.wp] at h ⊢; obtain ⟨o, e, h⟩ := h; exact ⟨o, e, ih _ hq he h⟩
  | update a _ f k ih => intro Q Q' E E' p s hq he h; rw [Sem.wp] at h ⊢; exact ⟨h.1, ih _ hq he h.2⟩
  | alloc o k ih => intro Q Q' E E' p s hq he h; rw [Sem.wp] at h ⊢; exact ih _ hq he h
  | loadIfAlive a k ih => intro Q Q' E E' p s hq he h; rw [Sem.wp] at h ⊢; exact ih _ hq he h
  | point _ k ih => intro Q Q' E E' p s hq he h; rw [Sem.wp] at h ⊢; exact ih _ hq he h
  | register _ k ih => intro Q Q' E E' p s hq he h; rw [Sem.wp] at h; exact h.elim
  | fresh k ih => intro Q Q' E E' p s hq he h; rw [Sem.wp] at h ⊢; exact ih _ hq he h
  | ask k ih => intro Q Q' E E' p s hq he h; rw [Sem.wp] at h ⊢; exact ih _ hq he h
  | choose src m k ih => intro Q Q' E E' p s hq he h; rw [Sem.wp] at h ⊢; exact ⟨h.1, ih _ hq he h.2⟩
  | os q _ k ih => intro Q Q' E E' p s hq he h; rw [Sem.wp] at h ⊢; exact ih _ hq he h
  | call c hd _ _ k ih => intro Q Q' E E' p s hq he h; rw [Sem.wp] at h ⊢; obtain ⟨r, s1, h1, h2⟩ := h; exact ⟨r, s1, h1, ih _ hq he h2⟩
  | handled own k ih => intro Q Q' E E' p s hq he h; rw [Sem.wp] at h ⊢; exact ih _ hq he h
  | newGen c k ih => intro Q Q' E E' p s hq he h; rw [Sem.wp] at h ⊢; exact ih _ hq he h
  | genState g k ih => intro Q Q' E E' p s hq he h; rw [Sem.wp] at h ⊢; obtain ⟨o, e, h⟩ := h; exact ⟨o, e, ih _ hq he h⟩
  | resume g r _ k ih => intro Q Q' E E' p s hq he h; rw [Sem.wp] at h ⊢; obtain ⟨r, s1, h1, h2⟩ := h; exact ⟨r, s1, h1, ih _ hq he h2⟩
  | yield _ _ _ k ih => intro Q Q' E E' p s hq he h; rw [Sem.wp] at h; exact h.elim
  | stack k ih => intro Q Q' E E' p s hq he h; rw [Sem.wp] at h ⊢; exact ih _ hq he h
  | fork _ k ih => intro Q Q' E E' p s hq he h; rw [Sem.wp] at h; exact h.elim
  | thread k ih => intro Q Q' E E' p s hq he h; rw [Sem.wp] at h ⊢; exact ih _ hq he h
  | await _ _ _ _ k ih => intro Q Q' E E' p s hq he h; rw [Sem.wp] at h; exact h.elim
theorem wp_ni {α : Type} {M : Model} {Γ : PySem.Ctx} (t : Sem α) : ∀ (Q : α → Pos → Shared → Prop) (E : Value → Pos → Shared → Prop) (p : Pos) (s : Shared) (b : Array GenState), Rl s.gens b → Nog s.gens → Sem.wp M Γ t Q E p s →
    Sem.wp M Γ t (fun a p' => Bs s.gens b (Q a p')) (fun a p' => Bs s.gens b (E a p')) p { s with gens := b } := by
  induction t with
  | pure a => intro Q E p s b R N h; rw [Sem.wp] at h ⊢; exact ⟨s, b, rfl, h, R, .refl _ _⟩
  | raise e => intro Q E p s b R N h; rw [Sem.wp] at h ⊢; exact ⟨s, b, rfl, h, R, .refl _ _⟩
  | unsupported w => intro Q E p s b R N h; rw [Sem.wp] at h; exact h.elim
  | finish w => intro Q E p s b R N h; rw [Sem.wp] at h; exact h.elim
  | rule _ k ih => intro Q E p s b R N h; rw [Sem.wp] at h ⊢; exact ih _ _ _ _ s b R N h
  | «at» _ k ih => intro Q E p s b R N h; rw [Sem.wp] at h ⊢; exact ih _ _ _ _ s b R N h
  | load a _ k ih => intro Q E p s b R N h; rw [Sem.wp] at h ⊢; obtain ⟨o, e, h⟩ := h; exact ⟨o, e, ih _ _ _ _ s b R N h⟩
  | update a _ f k ih => intro Q E p s b R N h; rw [Sem.wp] at h ⊢; exact ⟨h.1, ih _ _ _ _ { s with heap := s.heap.update a f } b R N h.2⟩
  | alloc o k ih => intro Q E p s b R N h; rw [Sem.wp] at h ⊢; exact ih _ _ _ _ { s with heap := s.heap.push o } b R N h
  | loadIfAlive a k ih => intro Q E p s b R N h; rw [Sem.wp] at h ⊢; exact ih _ _ _ _ s b R N h
  | point _ k ih => intro Q E p s b R N h; rw [Sem.wp] at h ⊢; exact ih _ _ _ _ s b R N h
  | register _ k ih => intro Q E p s b R N h; rw [Sem.wp] at h; exact h.elim
  | fresh k ih => intro Q E p s b R N h; rw [Sem.wp] at h ⊢; exact ih _ _ _ _ { s with toks := s.toks + 1 } b R N h
  | ask k ih => intro Q E p s b R N h; rw [Sem.wp] at h ⊢; exact ih _ _ _ _ s b R N h
  | choose src m k ih => intro Q E p s b R N h; rw [Sem.wp] at h ⊢; exact ⟨h.1, ih _ _ _ _ { s with drawn := s.drawn.bump src } b R N h.2⟩
  | os q _ k ih => intro Q E p s b R N h; rw [Sem.wp] at h ⊢; exact ih _ _ _ _ { s with os := (Os.step s.os q).1 } b R N h
  | call c hd _ _ k ih =>
    intro Q E p s b R N h
    rw [Sem.wp] at h ⊢
    obtain ⟨r, s1, h1, h2⟩ := h
    obtain ⟨b1, r1, R1, S1, N1, _⟩ := ni h1 b R N rfl
    exact ⟨r, _, r1, wp_mono' _ (fun _ _ _ z => z.after S1) (fun _ _ _ z => z.after S1) (ih _ _ _ _ s1 b1 R1 N1 h2)⟩
  | handled own k ih => intro Q E p s b R N h; rw [Sem.wp] at h ⊢; exact ih _ _ _ _ s b R N h
  | newGen c k ih =>
    intro Q E p s b R N h
    rw [Sem.wp] at h ⊢
    obtain ⟨R2, N2, S2⟩ := push_all (c := c) R N
    have q := ih s.gens.size _ _ _ { s with gens := s.gens.push (.fresh c) } _ R2 N2 h
    refine wp_mono' (Q := fun a p' => Bs (s.gens.push (.fresh c)) (b.push (.fresh c)) (Q a p')) (E := fun a p' => Bs (s.gens.push (.fresh c)) (b.push (.fresh c)) (E a p')) _ (fun _ _ _ z => Bs.after S2 z) (fun _ _ _ z => Bs.after S2 z) ?_
    show Sem.wp M Γ (k b.size) _ _ _ _
    rw [← R.1]
    exact q
  | genState g k ih =>
    intro Q E p s b R N h
    rw [Sem.wp] at h ⊢
    obtain ⟨st, hg, h⟩ := h
    rcases R.2 g with eb | ⟨z, y, ez, kz, ey, se, _⟩
    · exact ⟨st, by rw [show ({ s with gens := b } : Shared).gens[g]? = b[g]? from rfl, eb, hg], ih _ _ _ _ s b R N h⟩
    · rw [hg] at ez
      obtain rfl := Option.some.inj ez
      exact ⟨y, ey, by rw [se]; exact ih _ _ _ _ s b R N h⟩
  | resume g r _ k ih =>
    intro Q E p s b R N h
    rw [Sem.wp] at h ⊢
    obtain ⟨r, s1, h1, h2⟩ := h
    obtain ⟨b1, r1, R1, S1, N1⟩ := wakes_ni h1 b R N
    exact ⟨r, _, r1, wp_mono' _ (fun _ _ _ z => z.after S1) (fun _ _ _ z => z.after S1) (ih _ _ _ _ s1 b1 R1 N1 h2)⟩
  | yield _ _ _ k ih => intro Q E p s b R N h; rw [Sem.wp] at h; exact h.elim
  | stack k ih => intro Q E p s b R N h; rw [Sem.wp] at h ⊢; exact ih _ _ _ _ s b R N h
  | fork _ k ih => intro Q E p s b R N h; rw [Sem.wp] at h; exact h.elim
  | thread k ih => intro Q E p s b R N h; rw [Sem.wp] at h ⊢; exact ih _ _ _ _ s b R N h
  | await _ _ _ _ k ih => intro Q E p s b R N h; rw [Sem.wp] at h; exact h.elim
/-- the stuck one that looks alike -/
def unk : GenState → GenState
  | .suspended _ l c p fs cl => .suspended (fun _ => .unsupported "") l c p (fs.map fun f => .ret (fun _ => .unsupported "") none false [] f.where_.1 f.where_.2 []) cl
  | x => x
theorem unk_split : ∀ fs : List Frame, splitAtGen (fs.map fun f => .ret (fun _ => .unsupported "") none false [] f.where_.1 f.where_.2 []) = none
  | [] => rfl
  | f :: fs => by
    show splitAtGen (.ret _ _ _ _ _ _ _ :: _) = none
    unfold splitAtGen
    rw [unk_split fs]
    rfl
theorem unk_nog (b : Array GenState) : Nog (b.map unk) := fun i k l c p fs cl h => by
  rw [Array.getElem?_map] at h
  obtain ⟨x, hx, e⟩ := Option.map_eq_some_iff.mp h
  cases x with
  | suspended k0 l0 c0 p0 fs0 cl0 =>
    cases e
    exact unk_split fs0
  | _ => cases e
theorem unk_rl (b : Array GenState) : Rl (b.map unk) b := by
  refine ⟨Array.size_map .., fun i => ?_⟩
  rw [Array.getElem?_map]
  cases e : b[i]? with
  | none => exact .inl rfl
  | some x =>
    cases x with
    | suspended k0 l0 c0 p0 fs0 cl0 =>
      refine .inr ⟨_, _, rfl, fun r => ⟨_, rfl⟩, rfl, ?_, rfl⟩
      show (GenStatus.suspended, some ((c0, p0) :: fs0.map Frame.where_)) = (GenStatus.suspended, some ((c0, p0) :: (fs0.map _).map Frame.where_))
      rw [List.map_map]
      rfl
    | _ => exact .inl rfl
theorem unk_bare {b : Array GenState} (h : PyProof.Rows.AllBare b) : PyProof.Rows.AllBare (b.map unk) := fun y hy => by
  obtain ⟨x, hx, rfl⟩ := Array.mem_map.mp hy
  have := h x hx
  cases x <;> exact this
theorem Rl.bare {a b : Array GenState} (R : Rl a b) (h : PyProof.Rows.AllBare a) : PyProof.Rows.AllBare b := fun y hy => by
  obtain ⟨i, hi⟩ := Array.mem_iff_getElem?.mp hy
  rcases R.2 i with e | ⟨z, y', ez, _, ey, _, eb⟩
  · rw [hi] at e
    exact h y (Array.mem_iff_getElem?.mpr ⟨i, e.symm⟩)
  · rw [hi] at ey
    rw [Option.some.inj ey, eb]
    exact h z (Array.mem_iff_getElem?.mpr ⟨i, ez⟩)
/-- the suspended ones of a stand in b -/
def Kp (a b : Array GenState) : Prop := ∀ (i : Nat) k l c p fs cl, a[i]? = some (.suspended k l c p fs cl) → b[i]? = some (.suspended k l c p fs cl)
theorem Kp.refl (a : Array GenState) : Kp a a := fun _ _ _ _ _ _ _ h => h
theorem Kp.trans {a b c : Array GenState} (h : Kp a b) (g : Kp b c) : Kp a c := fun i k l d p fs cl e => g i k l d p fs cl (h i k l d p fs cl e)
theorem sty_kp {a a' b' : Array GenState} (S : Sty (a.map unk) a a' b') : Kp a b' := fun i k l c p fs cl e => by
  have q := S i (unk (.suspended k l c p fs cl)) (by rw [Array.getElem?_map, e]; rfl) (fun r => ⟨_, rfl⟩)
  rw [q.2, e]
/-- what runs from any generators leaves the suspended ones as they were -/
theorem wpAny_ni {α : Type} {M : Model} {A : Around} {t : Sem α} {Q : α → Shared → Prop} {E : Value → Shared → Prop} {s : Shared} (h : wpAny M A t Q E { s with gens := s.gens.map unk }) :
    wpAny M A t (fun a s'' => ∃ s' b', s'' = { s' with gens := b' } ∧ Q a s' ∧ Rl s'.gens b' ∧ Kp s.gens b') (fun a s'' => ∃ s' b', s'' = { s' with gens := b' } ∧ E a s' ∧ Rl s'.gens b' ∧ Kp s.gens b') s := fun Γ p hΓ =>
  wp_mono' _ (fun _ _ _ ⟨s', b', e, q, R, S⟩ => ⟨s', b', e, q, R, sty_kp S⟩) (fun _ _ _ ⟨s', b', e, q, R, S⟩ => ⟨s', b', e, q, R, sty_kp S⟩) (wp_ni t _ _ p { s with gens := s.gens.map unk } s.gens (unk_rl _) (unk_nog _) (h Γ p hΓ))
end Ni
/-! One turn of the consumer, the walked generator untouched. -/
namespace Gl
open PySem PySem.Spec PyProof.Rows GenW L2
theorem inv_gens {X : Cx} {pins : List (Addr × Obj)} {σ : L2.St} {H : Hp} {s : Shared} {b : Array GenState} (I : Inv X pins σ H s) (hb : AllBare b) : Inv X pins σ H { s with gens := b } :=
  ⟨I.ok, I.os, hb, I.base, I.loc, I.cell, I.free, I.freeC, I.pin, I.hok, I.len⟩
/-- a statement's end with other generators -/
theorem sp_gens {X : Cx} {pins : List (Addr × Obj)} {D : Ends} {f : Flow} {s : Shared} {b : Array GenState} (h : SP X pins D f s) (hb : AllBare s.gens → AllBare b) : SP X pins D f { s with gens := b } := by
  cases f with
  | next => obtain ⟨σ, H, I, q⟩ := h; exact ⟨σ, H, inv_gens I (hb I.bare), q⟩
  | brk => obtain ⟨σ, H, I, q⟩ := h; exact ⟨σ, H, inv_gens I (hb I.bare), q⟩
  | cont => obtain ⟨σ, H, I, q⟩ := h; exact ⟨σ, H, inv_gens I (hb I.bare), q⟩
  | ret u => obtain ⟨v, σ, H, I, r, q⟩ := h; exact ⟨v, σ, H, inv_gens I (hb I.bare), r, q⟩
/-- that an exception is wanted has nothing to do with the generators -/
def Calm (X : Cx) : Prop := ∀ u s b, X.xe u s → X.xe u { s with gens := b }
/-- the body, run beside suspended generators -/
theorem body_ni {X : Cx} {body : List Stmt} {tb : TS} {pins : List (Addr × Obj)} {σ : L2.St} {H : Hp} {s : Shared} {D : Ends} (hb : PSs X body tb) (hx : Calm X) (I : Inv X pins σ H s) (h : tb D σ H) :
    wpAny (model X.prog X.w) X.A (execs body X.env) (fun f t => SP X pins D f t ∧ Ni.Kp s.gens t.gens) X.xe s := by
  refine wpAny_mono (Ni.wpAny_ni (hb.run pins { s with gens := s.gens.map Ni.unk } σ H D (inv_gens I (Ni.unk_bare I.bare)) h)) (fun f t ⟨t', b, e, q, R, k⟩ => ?_) fun u t ⟨t', b, e, q, _, _⟩ => ?_
  · subst e
    exact ⟨sp_gens q R.bare, k⟩
  · subst e
    exact hx u t' b q
theorem goes_ni {X : Cx} {tg : Expr} {g : TG} {pins : List (Addr × Obj)} {σ : L2.St} {H : Hp} {s : Shared} {x : V} {v : Value} {Q : L2.St → Hp → Prop} (hg : PG X tg g) (hx : Calm X) (I : Inv X pins σ H s) (r : RelV x v) (h : g x σ H Q) :
    wpAny (model X.prog X.w) X.A (assign tg X.env v) (fun _ t => (∃ σ2 H2, Inv X pins σ2 H2 t ∧ Q σ2 H2) ∧ Ni.Kp s.gens t.gens) X.xe s := by
  refine wpAny_mono (Ni.wpAny_ni (hg.run pins { s with gens := s.gens.map Ni.unk } σ H x v Q (inv_gens I (Ni.unk_bare I.bare)) r h)) (fun _ t ⟨t', b, e, q, R, k⟩ => ?_) fun u t ⟨t', b, e, q, _, _⟩ => ?_
  · subst e
    obtain ⟨σ2, H2, I2, q2⟩ := q
    exact ⟨⟨σ2, H2, inv_gens I2 (R.bare I2.bare), q2⟩, k⟩
  · subst e
    exact hx u t' b q
end Gl

/-! A consumer walks a generator: what the two say of one another from one item to the next. -/
namespace Lg
open PySem PySem.Spec PyProof.Rows GenW L2 G3
/-- the objects at some addresses as they stand in another heap -/
def patch (h2 : Heap) : List Addr → Heap → Heap
  | [], h => h
  | b :: l, h => patch h2 l (match h2.get? b with | some o => h.update b (fun _ => o) | none => h)
theorem patch_size (h2 : Heap) : ∀ (l : List Addr) (h : Heap), (patch h2 l h).objs.size = h.objs.size
  | [], _ => rfl
  | b :: l, h => by
    show (patch h2 l _).objs.size = _
    rw [patch_size h2 l]
    cases h2.get? b with
    | none => rfl
    | some o => exact Heap.size_after_update ..
theorem patch_other (h2 : Heap) {c : Addr} : ∀ (l : List Addr) (h : Heap), c ∉ l → (patch h2 l h).get? c = h.get? c
  | [], _, _ => rfl
  | b :: l, h, n => by
    show (patch h2 l _).get? c = _
    rw [patch_other h2 l _ (fun z => n (List.mem_cons_of_mem _ z))]
    have ne : b ≠ c := fun z => n (by rw [z]; exact List.mem_cons_self)
    cases h2.get? b with
    | none => rfl
    | some o => exact Heap.get?_update_other h _ ne
theorem alive_of {h : Heap} {a : Addr} {o : Obj} (e : h.get? a = some o) : o.isFreed = false := (Heap.get?_some_iff.mp e).2
theorem patch_at (h2 : Heap) {c : Addr} {x o : Obj} (e2 : h2.get? c = some o) : ∀ (l : List Addr) (h : Heap), c ∈ l → h.get? c = some x → (patch h2 l h).get? c = some o
  | [], _, m, _ => by cases m
  | b :: l, h, m, e => by
    show (patch h2 l _).get? c = _
    by_cases eb : b = c
    · subst eb
      rw [e2]
      have u : (h.update b (fun _ => o)).get? b = some o := Heap.get?_update_self _ e (alive_of e2)
      by_cases ml : b ∈ l
      · exact patch_at h2 e2 l _ ml u
      · show (patch h2 l _).get? b = _
        rw [patch_other h2 l _ ml]
        exact u
    · have ml : c ∈ l := (List.mem_cons.mp m).resolve_left fun z => eb z.symm
      cases h2.get? b with
      | none => exact patch_at h2 e2 l _ ml e
      | some o1 => exact patch_at h2 e2 l _ ml (by rw [Heap.get?_update_other h _ eb]; exact e)
/-- all that stands untracked and may be pinned -/
noncomputable def free (X : Cx) (H : Hp) (h : Heap) : List (Addr × Obj) := (List.range h.objs.size).filterMap fun b => match h.get? b with
  | some o => if @decide (H b = none ∧ b ≠ X.env.locals ∧ b ∉ X.fs ∧ ∀ v, o.data ≠ .cell v) (Classical.propDecidable _) = true then some (b, o) else none
  | none => none
theorem mem_free {X : Cx} {H : Hp} {h : Heap} {q : Addr × Obj} : q ∈ free X H h ↔ h.get? q.1 = some q.2 ∧ H q.1 = none ∧ q.1 ≠ X.env.locals ∧ q.1 ∉ X.fs ∧ ∀ v, q.2.data ≠ .cell v := by
  unfold free
  rw [List.mem_filterMap]
  constructor
  · rintro ⟨b, _, e⟩
    cases g : h.get? b with
    | none => rw [g] at e; cases e
    | some o =>
      rw [g] at e
      have e : (if @decide (H b = none ∧ b ≠ X.env.locals ∧ b ∉ X.fs ∧ ∀ v, o.data ≠ .cell v) (Classical.propDecidable _) = true then some (b, o) else none) = some q := e
      split at e
      · rename_i c
        have z := Option.some.inj e
        rw [← z]
        exact ⟨g, @of_decide_eq_true _ (Classical.propDecidable _) c⟩
      · cases e
  · rintro ⟨g, c⟩
    refine ⟨q.1, List.mem_range.mpr (Heap.lt_size g), ?_⟩
    rw [g]
    show (if @decide _ (Classical.propDecidable _) = true then some (q.1, q.2) else none) = some q
    rw [if_pos (@decide_eq_true _ (Classical.propDecidable _) c)]
theorem free_inv {X : Cx} {pins : List (Addr × Obj)} {σ : L2.St} {H : Hp} {s : Shared} (I : Inv X pins σ H s) : Inv X (pins ++ free X H s.heap) σ H s := I.pins_of fun p hp => by
  rcases List.mem_append.mp hp with hp | hp
  · exact I.pin p (List.mem_append_right _ hp)
  · exact mem_free.mp hp

/-- what is tracked is there -/
theorem tracked {P : Program} {w : World} {H : Hp} {h : Heap} {a : Addr} {o : HO} (x : ObjOk P w H h a o) : ∃ u, h.get? a = some u := by
  cases o with
  | lst xs => obtain ⟨_, _, _, _, e⟩ := x; exact ⟨_, e⟩
  | tup xs => obtain ⟨_, _, _, ob, e, _⟩ := x; exact ⟨_, e⟩
  | dK kvs => obtain ⟨_, _, _, _, o, _, _, e, _⟩ := x; exact ⟨_, e⟩
  | dT kvs => obtain ⟨_, _, _, _, o, _, _, e, _⟩ := x; exact ⟨_, e⟩
  | set S n => obtain ⟨o, _, _, _, e, _⟩ := x; exact ⟨_, e⟩
  | ins C dx fs => obtain ⟨_, _, _, e, _⟩ := x; exact ⟨_, e⟩
  | own y => exact x
  | xd fs => obtain ⟨_, ⟨o, _, _, e, _⟩, _⟩ := x; exact ⟨_, e⟩
  | rng lo hi => obtain ⟨_, _, _, e⟩ := x; exact ⟨_, e⟩
  | frz ob u => obtain ⟨e, _⟩ := x; exact ⟨_, e⟩
  | tbl ps => exact ⟨_, (show h.get? a = some _ from x)⟩
  | met f y => exact ⟨_, (show h.get? a = some _ from x)⟩
  | ext φ => obtain ⟨_, e, _⟩ := x; exact e
theorem get_one {h : Heap} {b : Addr} {o o' : Obj} (e : h.get? b = some o) (e' : h.get? b = some o') : o = o' := Option.some.inj (e.symm.trans e')
/-- which renewals the consumer makes -/
structure Fam (C : Shared → L2.St → Prop) (fs cs nb : List Addr) (ρ0 : Rn) (s₀ : Shared) (γ : L2.St) (ρ : Rn) : Prop where
  c : C s₀ γ
  os : ρ.s.os = ρ0.s.os
  H : ρ.H = ρ0.H
  sz : ρ.s.heap.objs.size = ρ0.s.heap.objs.size
  out : ∀ b, b ∉ fs → b ∉ cs → ρ.s.heap.get? b = ρ0.s.heap.get? b
  frm : ∀ b ∈ fs, ∀ o, ρ.s.heap.get? b = some o → ∃ sl, s₀.heap.get? b = some { o with slots := sl }
  cel : ∀ b ∈ cs, ρ.s.heap.get? b = s₀.heap.get? b
  pn : ρ.pn = pinsAt nb s₀.heap
  nbE : ∀ b ∈ nb, ∃ o, s₀.heap.get? b = some o
  xe : ρ.xe = fun _ _ => False
/-- what is between the two -/
structure Lk (X : Cx) (pins : List (Addr × Obj)) (g : Cx) (cs nb tr : List Addr) (ρ0 : Rn) : Prop where
  prog : g.prog = X.prog
  w : g.w = X.w
  base : g.base = X.base
  gex : g.ex = []
  gcell : ∀ x, g.env.cells.lookup x = none
  glX : g.env.locals ∉ X.fs ∧ g.env.locals ≠ X.env.locals
  sub : ∀ b ∈ X.fs, b ∈ g.fs
  sup : ∀ b ∈ g.fs, b = X.env.locals ∨ b ∈ X.fs
  cs1 : ∀ x c, X.env.cells.lookup x = some c → c ∈ cs ∧ c ∉ X.fs ∧ c ≠ X.env.locals
  cs2 : ∀ b ∈ cs, ∃ x, X.env.cells.lookup x = some b
  csH : ∀ b ∈ cs, ρ0.H b = none
  csT : ∀ b ∈ cs, ∃ o, ρ0.s.heap.get? b = some o
  fsT : ∀ b ∈ g.fs, ∃ o, ρ0.s.heap.get? b = some o
  loc : X.env.locals ∈ g.fs ∨ (X.env.locals ∈ nb ∧ ρ0.s.heap.get? X.env.locals = none)
  os : ρ0.s.os = X.s_0.os
  keep : ∀ b o, ((X.s_0.heap.get? b = some o ∧ X.H_0 b = none ∧ b ∉ X.ex) ∨ (b, o) ∈ X.pn ++ pins) → b ∉ g.fs → b ∉ cs → b ∈ nb ∨ (ρ0.s.heap.get? b = some o ∧ ρ0.H b = none)
  there : ∀ b o, X.s_0.heap.get? b = some o → b ∉ X.ex → b ∈ nb ∨ b ∈ tr ∨ ∃ o', ρ0.s.heap.get? b = some o'
  tups : ∀ b xs, X.H_0 b = some (.tup xs) → ρ0.H b = some (.tup xs)
  frzs : ∀ b o u, X.H_0 b = some (.frz o u) → ρ0.H b = some (.frz o u)
  tbls : ∀ b ps, X.H_0 b = some (.tbl ps) → ρ0.H b = some (.tbl ps)
  cells : ∀ b o v, ρ0.s.heap.get? b = some o → ρ0.H b = none → b ∉ g.fs → o.data = .cell v → b ∈ cs ∨ (X.s_0.heap.get? b = some o ∧ X.H_0 b = none ∧ b ∉ X.ex)
  gthere : ∀ b o, ρ0.s.heap.get? b = some o → ρ0.H b ≠ none → ∃ o', X.s_0.heap.get? b = some o' ∧ b ∉ X.ex
  gtups : ∀ b xs, ρ0.H b = some (.tup xs) → X.H_0 b = some (.tup xs)
  gfrzs : ∀ b o u, ρ0.H b = some (.frz o u) → X.H_0 b = some (.frz o u)
  gtbls : ∀ b ps, ρ0.H b = some (.tbl ps) → X.H_0 b = some (.tbl ps)
section
variable {X g : Cx} {pins ip : List (Addr × Obj)} {cs nb tr : List Addr} {ρ0 ρ : Rn} {C : Shared → L2.St → Prop} {γ γ7 σg : L2.St} {H H1 H7 : Hp} {s0 s1 s7 : Shared}
theorem Lk.nfs (L : Lk X pins g cs nb tr ρ0) {b : Addr} (n : b ∉ X.fs) (l : b ≠ X.env.locals) : b ∉ g.fs := fun z => (L.sup b z).elim l n
theorem Lk.csF (L : Lk X pins g cs nb tr ρ0) {b : Addr} (m : b ∈ cs) : b ∉ g.fs ∧ b ∉ X.fs ∧ b ≠ X.env.locals := by
  obtain ⟨x, e⟩ := L.cs2 b m
  obtain ⟨_, n, l⟩ := L.cs1 x b e
  exact ⟨L.nfs n l, n, l⟩
/-- behind the generator's turn: the consumer's own invariant -/
theorem yielded (L : Lk X pins g cs nb tr ρ0) (F : Fam C g.fs cs nb ρ0 s0 γ ρ) (I : Inv X pins γ H s0) (Ig : Inv (on g ρ) ip σg H1 s1) (ht : ∀ b ∈ tr, H1 b ≠ none) : Inv X pins γ H1 s1 := by
  have ok := I.ok
  have un := Ig.base
  have noex : ∀ b : Addr, b ∉ (on g ρ).ex := fun b z => by
    have z : b ∈ g.ex := z
    rw [L.gex] at z; cases z
  have fr : ∀ b ∈ g.fs, H1 b = none ∧ ∀ o, s0.heap.get? b = some o → ∃ sl, s1.heap.get? b = some { o with slots := sl } := fun b m => by
    obtain ⟨_, o1, e1, _⟩ := Ig.ok.funs.mem m
    obtain ⟨sl1, e2⟩ := F.frm b m o1 e1
    have n := Ig.ok.frf b m
    obtain ⟨sl2, e3⟩ := un.slot b o1 e1 n m (noex b)
    refine ⟨un.free b o1 e1 n (noex b), fun o e => ⟨sl2, ?_⟩⟩
    rw [e3, get_one e e2]
  have pinN : ∀ b ∈ nb, ∀ o, s0.heap.get? b = some o → s1.heap.get? b = some o ∧ H1 b = none := fun b m o e => by
    have q : (b, o) ∈ ρ.pn := by rw [F.pn]; exact mem_pinsAt m e
    obtain ⟨h1, h2, _⟩ := Ig.pin (b, o) (List.mem_append_left _ q)
    exact ⟨h1, h2⟩
  have rH : ∀ b, (on g ρ).H_0 b = ρ0.H b := fun b => by
    show ρ.H b = _
    rw [F.H]
  have cell : ∀ b ∈ cs, ∀ o, s0.heap.get? b = some o → s1.heap.get? b = some o ∧ H1 b = none := fun b m o e => by
    have e1 : ρ.s.heap.get? b = some o := (F.cel b m).trans e
    have n : (on g ρ).H_0 b = none := (rH b).trans (L.csH b m)
    exact ⟨un.keep b o e1 n (L.csF m).1 (noex b), un.free b o e1 n (noex b)⟩
  have locK : H1 X.env.locals = none ∧ ∀ o, s0.heap.get? X.env.locals = some o → ∃ sl, s1.heap.get? X.env.locals = some { o with slots := sl } := by
    rcases L.loc with m | ⟨m, _⟩
    · exact fr _ m
    · obtain ⟨o, e⟩ := F.nbE _ m
      exact ⟨(pinN _ m o e).2, fun o e => ⟨o.slots, (pinN _ m o e).1⟩⟩
  have old : ∀ b o, ((X.s_0.heap.get? b = some o ∧ X.H_0 b = none ∧ b ∉ X.ex) ∨ (b, o) ∈ X.pn ++ pins) → s0.heap.get? b = some o → b ∉ X.fs → b ≠ X.env.locals → s1.heap.get? b = some o ∧ H1 b = none := fun b o nd e nf nl => by
    have nfs := L.nfs nf nl
    by_cases mc : b ∈ cs
    · exact cell b mc o e
    · rcases L.keep b o nd nfs mc with m | ⟨e1, n1⟩
      · exact pinN b m o e
      · have e2 : ρ.s.heap.get? b = some o := (F.out b nfs mc).trans e1
        have n2 : (on g ρ).H_0 b = none := (rH b).trans n1
        exact ⟨un.keep b o e2 n2 nfs (noex b), un.free b o e2 n2 (noex b)⟩
  have neL : ∀ {b o}, X.s_0.heap.get? b = some o → b ≠ X.env.locals := fun {b o} e => Nat.ne_of_lt (Nat.lt_of_lt_of_le (Heap.lt_size e) ok.above)
  have cellK : ∀ x c, X.env.cells.lookup x = some c → ∀ v, s0.heap.IsCell c v → s1.heap.IsCell c v := fun x c e v ⟨o, ho, hd⟩ => ⟨o, (cell c (L.cs1 x c e).1 o ho).1, hd⟩
  refine ⟨ok, ?_, Ig.bare, ⟨fun b o e n nf nx => ?_, fun b o e n mf nx => ?_, fun b o e n nx => ?_, fun b o e nx => ?_, fun b xs e => ?_, fun b o u e => ?_, fun b ps e => ?_⟩, ?_, ?_, locK.1, ?_, ?_, ?_, I.len⟩
  · rw [Ig.os]
    show ρ.s.os = _
    rw [F.os, L.os]
  · exact (old b o (.inl ⟨e, n, nx⟩) (I.base.keep b o e n nf nx) nf (neL e)).1
  · obtain ⟨sl, e1⟩ := I.base.slot b o e n mf nx
    obtain ⟨sl2, e2⟩ := (fr b (L.sub b mf)).2 _ e1
    exact ⟨sl2, e2⟩
  · by_cases mf : b ∈ X.fs
    · exact (fr b (L.sub b mf)).1
    · exact (old b o (.inl ⟨e, n, nx⟩) (I.base.keep b o e n mf nx) mf (neL e)).2
  · obtain ⟨o1, e1⟩ := I.base.there b o e nx
    rcases L.there b o e nx with m | m | ⟨o2, e2⟩
    · exact ⟨o1, (pinN b m o1 e1).1⟩
    · cases q : H1 b with
      | none => exact absurd q (ht b m)
      | some x => exact tracked (Ig.hok b x q)
    · by_cases mf : b ∈ g.fs
      · obtain ⟨sl, q⟩ := (fr b mf).2 o1 e1
        exact ⟨_, q⟩
      · by_cases mc : b ∈ cs
        · exact ⟨o1, (cell b mc o1 e1).1⟩
        · exact un.there b o2 ((F.out b mf mc).trans e2) (noex b)
  · exact un.tups b xs ((rH b).trans (L.tups b xs e))
  · exact un.frzs b o u ((rH b).trans (L.frzs b o u e))
  · exact un.tbls b ps ((rH b).trans (L.tbls b ps e))
  · obtain ⟨m, ⟨o, es, ep, e, d, r⟩, hv⟩ := I.loc
    obtain ⟨sl, e2⟩ := locK.2 o e
    refine ⟨m, ⟨_, es, ep, e2, d, r⟩, fun i x v h1 h2 h3 => ?_⟩
    obtain ⟨u, ru, lk⟩ := hv i x v h1 h2 h3
    refine ⟨u, ru, ?_⟩
    rcases lk with q | ⟨k, c, hc, hcell⟩
    · exact .inl q
    · exact .inr ⟨k, c, hc, cellK x c hc _ hcell⟩
  · intro x c h
    obtain ⟨v, q⟩ := I.cell x c h
    exact ⟨v, cellK x c h v q⟩
  · intro x c h
    obtain ⟨v, o, ho, hd⟩ := I.cell x c h
    exact (cell c (L.cs1 x c h).1 o ho).2
  · intro p hp
    obtain ⟨h1, h2, h3, h4, h5⟩ := I.pin p hp
    obtain ⟨k1, k2⟩ := old p.1 p.2 (.inr hp) h1 h4 h3
    exact ⟨k1, k2, h3, h4, h5⟩
  · have h := Ig.hok
    rw [show (on g ρ).prog = X.prog from L.prog, show (on g ρ).w = X.w from L.w] at h
    exact h
end
end Lg
/-! Behind the consumer's turn: the generator's invariant, in a renewed context. -/
namespace Lg
open PySem PySem.Spec PyProof.Rows GenW L2 G3
/-- the renewal at t -/
def ren (ρ0 : Rn) (L nb : List Addr) (t : Shared) : Rn := ⟨{ ρ0.s with heap := patch t.heap L ρ0.s.heap }, ρ0.H, fun _ _ => False, pinsAt nb t.heap⟩
section
variable {X g : Cx} {pins ip : List (Addr × Obj)} {cs nb tr : List Addr} {ρ0 ρ : Rn} {C : Shared → L2.St → Prop} {γ γ7 σg : L2.St} {H H1 H7 : Hp} {s0 s1 s7 t : Shared}
theorem rested (L : Lk X pins g cs nb tr ρ0) (F : Fam C g.fs cs nb ρ0 s0 γ ρ) (av : Av ρ ip) (Ig : Inv (on g ρ) ip σg H1 s1) (I7 : Inv X (pins ++ free X H1 s1.heap) γ7 H7 t) (hC : C t γ7) :
    Fam C g.fs cs nb ρ0 t γ7 (ren ρ0 (g.fs ++ cs) nb t) ∧ Av (ren ρ0 (g.fs ++ cs) nb t) ip ∧ Inv (on g (ren ρ0 (g.fs ++ cs) nb t)) ip σg H7 t := by
  have ok := Ig.ok
  have un := Ig.base
  have noex : ∀ b : Addr, b ∉ (on g ρ).ex := fun b z => by
    have z : b ∈ g.ex := z
    rw [L.gex] at z; cases z
  have rH : ∀ b, (on g ρ).H_0 b = ρ0.H b := fun b => by
    show ρ.H b = _
    rw [F.H]
  have psz : (patch t.heap (g.fs ++ cs) ρ0.s.heap).objs.size = ρ0.s.heap.objs.size := patch_size ..
  have pother : ∀ {b}, b ∉ g.fs → b ∉ cs → (patch t.heap (g.fs ++ cs) ρ0.s.heap).get? b = ρ0.s.heap.get? b := fun n m => patch_other _ _ _ fun z => (List.mem_append.mp z).elim n m
  have pat : ∀ {b o o0}, b ∈ g.fs ++ cs → ρ0.s.heap.get? b = some o0 → t.heap.get? b = some o → (patch t.heap (g.fs ++ cs) ρ0.s.heap).get? b = some o := fun m e0 e => patch_at t.heap e _ _ m e0
  have pinned : ∀ {b o}, s1.heap.get? b = some o → H1 b = none → b ≠ X.env.locals → b ∉ X.fs → (∀ v, o.data ≠ .cell v) → t.heap.get? b = some o ∧ H7 b = none := fun {b o} e n l nf d => by
    obtain ⟨h1, h2, _⟩ := I7.pin (b, o) (List.mem_append_right _ (List.mem_append_right _ (mem_free.mpr ⟨e, n, l, nf, d⟩)))
    exact ⟨h1, h2⟩
  -- the frames and the cells now
  have frm : ∀ b ∈ g.fs, H7 b = none ∧ ∃ o, t.heap.get? b = some o ∧ ∀ vs, o.data ≠ .fields vs := fun b m => by
    rcases L.sup b m with rfl | m
    · obtain ⟨_, ⟨o, es, ep, e, d, _⟩, _⟩ := I7.loc
      exact ⟨I7.free, o, e, fun vs z => by rw [d] at z; cases z⟩
    · obtain ⟨_, o, e, d⟩ := I7.ok.funs.mem m
      have n := I7.ok.frf b m
      have nx : b ∉ X.ex := fun z => I7.ok.exfs b z m
      obtain ⟨sl, e1⟩ := I7.base.slot b o e n m nx
      exact ⟨I7.base.free b o e n nx, _, e1, d⟩
  have cel : ∀ b ∈ cs, H7 b = none ∧ ∃ o, t.heap.get? b = some o := fun b m => by
    obtain ⟨x, e⟩ := L.cs2 b m
    obtain ⟨v, o, q, _⟩ := I7.cell x b e
    exact ⟨I7.freeC x b e, o, q⟩
  have patL : ∀ {b}, b ∈ g.fs ++ cs → ∃ o, t.heap.get? b = some o ∧ (patch t.heap (g.fs ++ cs) ρ0.s.heap).get? b = some o := fun {b} m => by
    obtain ⟨o, e, o0, e0⟩ : ∃ o, t.heap.get? b = some o ∧ ∃ o0, ρ0.s.heap.get? b = some o0 := by
      rcases List.mem_append.mp m with m | m
      · obtain ⟨_, o, e, _⟩ := frm b m
        exact ⟨o, e, L.fsT b m⟩
      · obtain ⟨_, o, e⟩ := cel b m
        exact ⟨o, e, L.csT b m⟩
    exact ⟨o, e, pat m e0 e⟩
  have nbK : ∀ b ∈ nb, ∃ o, t.heap.get? b = some o ∧ H7 b = none ∧ b ≠ g.env.locals ∧ b ∉ g.fs ∧ (∀ v, o.data ≠ .cell v) := fun b m => by
    obtain ⟨o, e⟩ := F.nbE b m
    have q : (b, o) ∈ ρ.pn := by rw [F.pn]; exact mem_pinsAt m e
    obtain ⟨h1, h2, h3, h4, h5⟩ := Ig.pin (b, o) (List.mem_append_left _ q)
    by_cases l : b = X.env.locals
    · subst l
      obtain ⟨_, ⟨o7, es, ep, e7, d, _⟩, _⟩ := I7.loc
      exact ⟨o7, e7, I7.free, h3, h4, fun v z => by rw [d] at z; cases z⟩
    · obtain ⟨k1, k2⟩ := pinned h1 h2 l (fun z => h4 (L.sub b z)) h5
      exact ⟨o, k1, k2, h3, h4, h5⟩
  have avn : ∀ p ∈ pinsAt nb t.heap, ∀ q ∈ ip, p.1 ≠ q.1 := fun p hp q hq => by
    obtain ⟨m, _⟩ := of_pinsAt hp
    obtain ⟨o, e⟩ := F.nbE p.1 m
    exact av (p.1, o) (by rw [F.pn]; exact mem_pinsAt m e) q hq
  -- an untracked object of the start
  have old : ∀ b o, ρ0.s.heap.get? b = some o → ρ0.H b = none → b ∉ g.fs → b ∉ cs → t.heap.get? b = some o ∧ H7 b = none := fun b o e n nf nc => by
    have e1 : ρ.s.heap.get? b = some o := (F.out b nf nc).trans e
    have n1 : (on g ρ).H_0 b = none := (rH b).trans n
    have k1 := un.keep b o e1 n1 nf (noex b)
    have k2 := un.free b o e1 n1 (noex b)
    by_cases cl : ∃ v, o.data = .cell v
    · obtain ⟨v, hv⟩ := cl
      rcases L.cells b o v e n nf hv with m | ⟨z1, z2, z3⟩
      · exact absurd m nc
      · have nX : b ∉ X.fs := fun z => nf (L.sub b z)
        exact ⟨I7.base.keep b o z1 z2 nX z3, I7.base.free b o z1 z2 z3⟩
    · have l : b ≠ X.env.locals := fun z => by
        rcases L.loc with m | ⟨_, m⟩
        · exact nf (by rw [z]; exact m)
        · rw [z, m] at e; cases e
      exact pinned k1 k2 l (fun z => nf (L.sub b z)) fun v z => cl ⟨v, z⟩
  refine ⟨⟨hC, rfl, rfl, psz, fun b n m => pother n m, fun b m o e => ?_, fun b m => ?_, rfl, fun b m => ?_, rfl⟩, avn, ?_⟩
  · obtain ⟨o', e1, e2⟩ := patL (List.mem_append_left _ m)
    have e : (patch t.heap (g.fs ++ cs) ρ0.s.heap).get? b = some o := e
    exact ⟨o.slots, by rw [e1, get_one e2 e]⟩
  · obtain ⟨o', e1, e2⟩ := patL (List.mem_append_right _ m)
    exact e2.trans e1.symm
  · obtain ⟨o, e, _⟩ := nbK b m
    exact ⟨o, e⟩
  have sz0 : (patch t.heap (g.fs ++ cs) ρ0.s.heap).objs.size = ρ.s.heap.objs.size := psz.trans F.sz.symm
  have glN : g.env.locals ∉ g.fs := fun m => by
    obtain ⟨_, o, e, _⟩ := ok.funs.mem m
    exact absurd (Nat.lt_of_lt_of_le (Heap.lt_size e) ok.above) (Nat.lt_irrefl _)
  obtain ⟨mg, ⟨og, es, ep, eg, dg, rg⟩, hv⟩ := Ig.loc
  have glK := pinned eg Ig.free L.glX.2 L.glX.1 fun v z => by rw [dg] at z; cases z
  refine ⟨⟨ok.mod, ok.kind, ok.glob, ok.blt, ?_, ok.inj, ok.has, ?_, ok.hd, ok.frames, ok.stk, ok.exf, ?_, ?_, ok.noex, ok.exfs, ?_, ?_⟩, ?_, I7.bare, ⟨?_, ?_, ?_, ?_, ?_, ?_, ?_⟩, ?_, ?_, glK.2, ?_, ?_, ?_, Ig.len⟩
  · show (patch _ _ _).objs.size ≤ _
    rw [sz0]; exact ok.above
  · intro x c _ h
    rw [show (on g (ren ρ0 (g.fs ++ cs) nb t)).env.cells.lookup x = none from L.gcell x] at h
    cases h
  · intro b o e
    obtain ⟨e1, e2⟩ := ok.bs b o e
    have nf : b ∉ g.fs := ok.nofr e
    have e2' : ρ0.H b = none := (rH b).symm.trans e2
    refine ⟨?_, e2'⟩
    show (patch t.heap (g.fs ++ cs) ρ0.s.heap).get? b = some o
    by_cases mc : b ∈ cs
    · obtain ⟨o', e3, e4⟩ := patL (List.mem_append_right _ mc)
      have e5 := I7.bk b o (by rw [← L.base]; exact e)
      rw [e4, get_one e3 e5]
    · rw [pother nf mc, ← F.out b nf mc]
      exact e1
  · show _ ≤ (patch _ _ _).objs.size
    rw [sz0]; exact ok.bsz
  · refine frames_at ok.funs fun b m => ?_
    obtain ⟨_, o, e, d⟩ := frm b m
    obtain ⟨o', e1, e2⟩ := patL (List.mem_append_left _ m)
    rw [get_one e e1] at d
    exact ⟨o', e2, d⟩
  · intro b m
    exact (rH b).symm.trans (ok.frf b m)
  · show t.os = ρ0.s.os
    rw [I7.os, L.os]
  · intro b o e n nf _
    have e : (patch t.heap (g.fs ++ cs) ρ0.s.heap).get? b = some o := e
    by_cases mc : b ∈ cs
    · obtain ⟨o', e1, e2⟩ := patL (List.mem_append_right _ mc)
      rw [e1, get_one e2 e]
    · rw [pother nf mc] at e
      exact (old b o e n nf mc).1
  · intro b o e n mf _
    obtain ⟨o', e1, e2⟩ := patL (List.mem_append_left _ mf)
    have e : (patch t.heap (g.fs ++ cs) ρ0.s.heap).get? b = some o := e
    exact ⟨o.slots, by rw [e1, get_one e2 e]⟩
  · intro b o e n _
    have e : (patch t.heap (g.fs ++ cs) ρ0.s.heap).get? b = some o := e
    by_cases mf : b ∈ g.fs
    · exact (frm b mf).1
    · by_cases mc : b ∈ cs
      · exact (cel b mc).1
      · rw [pother mf mc] at e
        exact (old b o e n mf mc).2
  · intro b o e _
    have e : (patch t.heap (g.fs ++ cs) ρ0.s.heap).get? b = some o := e
    by_cases mL : b ∈ g.fs ++ cs
    · obtain ⟨o', e1, _⟩ := patL mL
      exact ⟨o', e1⟩
    · have mf : b ∉ g.fs := fun z => mL (List.mem_append_left _ z)
      have mc : b ∉ cs := fun z => mL (List.mem_append_right _ z)
      rw [pother mf mc] at e
      cases q : ρ0.H b with
      | none => exact ⟨o, (old b o e q mf mc).1⟩
      | some x =>
        obtain ⟨o1, e1, nx⟩ := L.gthere b o e (by rw [q]; simp)
        exact I7.base.there b o1 e1 nx
  · exact fun b xs e => I7.base.tups b xs (L.gtups b xs e)
  · exact fun b o u e => I7.base.frzs b o u (L.gfrzs b o u e)
  · exact fun b ps e => I7.base.tbls b ps (L.gtbls b ps e)
  · refine ⟨mg, ⟨og, es, ep, glK.1, dg, rg⟩, fun i x v h1 h2 h3 => ?_⟩
    obtain ⟨u, ru, lk⟩ := hv i x v h1 h2 h3
    refine ⟨u, ru, ?_⟩
    rcases lk with q | ⟨_, c, hc, _⟩
    · exact .inl q
    · rw [show (on g ρ).env.cells.lookup x = none from L.gcell x] at hc
      cases hc
  · intro x c h
    rw [show (on g (ren ρ0 (g.fs ++ cs) nb t)).env.cells.lookup x = none from L.gcell x] at h
    cases h
  · intro x c h
    rw [show (on g (ren ρ0 (g.fs ++ cs) nb t)).env.cells.lookup x = none from L.gcell x] at h
    cases h
  · intro p hp
    have hp : p ∈ pinsAt nb t.heap ++ ip := hp
    rcases List.mem_append.mp hp with hp | hp
    · obtain ⟨m, e⟩ := of_pinsAt hp
      obtain ⟨o, k1, k2, k3, k4, k5⟩ := nbK p.1 m
      have q := get_one k1 e
      exact ⟨e, k2, k3, k4, by rw [← q]; exact k5⟩
    · obtain ⟨h1, h2, h3, h4, h5⟩ := Ig.pin p (List.mem_append_right _ hp)
      have l : p.1 ≠ X.env.locals := fun z => by
        rcases L.loc with m | ⟨m, _⟩
        · exact h4 (by rw [z]; exact m)
        · obtain ⟨o, e⟩ := F.nbE _ m
          exact av (X.env.locals, o) (by rw [F.pn]; exact mem_pinsAt m e) p hp z.symm
      obtain ⟨k1, k2⟩ := pinned h1 h2 l (fun z => h4 (L.sub p.1 z)) h5
      exact ⟨k1, k2, h3, h4, h5⟩
  · have h := I7.hok
    rw [← L.prog, ← L.w] at h
    exact h
end
end Lg
/-! One turn: next(g), then the consumer as it likes. -/
namespace Lg
open PySem PySem.Spec PyProof.Rows GenW L2 G3
/-- where the consumer stands ahead of a turn, n items may still come -/
def LI (X : Cx) (pins : List (Addr × Obj)) (g : Cx) (F : Fm) (R : GenEnd) (Y : Tn) (a : Addr) (gi : Nat) (go : Obj) (nb : List Addr) (n : Nat) (s : Shared) : Prop :=
  ∃ γ H gs, Inv X pins γ H s ∧ s.heap.get? a = some go ∧ (∀ b ∈ nb, ∃ o, s.heap.get? b = some o) ∧ s.gens[gi]? = some gs ∧ gs.Goes (model X.prog X.w) X.A.in1 R (Pr g F Y) n (.send .none) (s.setGen gi .running)
/-- what the consumer says of itself -/
def Cc (X : Cx) (pins : List (Addr × Obj)) : Shared → L2.St → Prop := fun s γ => ∃ H, Inv X pins γ H s
section
variable {X g : Cx} {pins : List (Addr × Obj)} {cs nb tr : List Addr} {ρ0 : Rn} {Y : Tn} {Q : L2.St → Hp → Prop} {a : Addr} {gi : Nat} {go : Obj} {outer : List Env} {Hc : Hp} {sc : Shared} {E : XK}
theorem next_g {n : Nat} {s : Shared} {E1 : Value → Shared → Prop} (L : Lk X pins g cs nb tr ρ0) (mono : Mono Y) (ha : a ∈ nb) (hgen : ∀ h : Heap, h.get? a = some go → h.IsGen a gi) (hgd : ∃ vs, go.data = .fields vs) (hh : X.A.handled = none) (hroom : X.A.depth < recursionLimit)
    (hQ : ∀ γ H, Q γ H → ∀ b ∈ tr, H b ≠ none) (hY : ∀ k x γ H P, Y k x γ H P → ∀ b ∈ tr, H b ≠ none)
    (hE : ∀ e s₁, CX g.prog g.w outer Hc sc E e s₁ → NotStop (model X.prog X.w) e s₁.heap ∧ E1 e (s₁.setGen gi .finished))
    (h : LI X pins g (Fam (Cc X pins) g.fs cs nb ρ0) (End3 g (Fam (Cc X pins) g.fs cs nb ρ0) Q outer Hc sc E a gi) Y a gi go nb n s) :
    wpAny (model X.prog X.w) X.A (pyNext (.ref a)) (fun r s1 => match r with
      | none => ∃ γ H, Inv X pins γ H s1 ∧ Q γ H
      | some v => ∃ γ H x k gs', Inv X (pins ++ free X H s1.heap) γ H s1 ∧ RelV x v ∧ s1.gens[gi]? = some gs' ∧ Gn3.Susp gs' ∧ s1.heap.get? a = some go ∧
          Y k x γ H fun γ2 H2 => ∀ t, Inv X (pins ++ free X H s1.heap) γ2 H2 t → t.gens[gi]? = some gs' → ∃ m, m < n ∧ LI X pins g (Fam (Cc X pins) g.fs cs nb ρ0) (End3 g (Fam (Cc X pins) g.fs cs nb ρ0) Q outer Hc sc E a gi) Y a gi go nb m t) E1 s := by
  obtain ⟨γ0, H0, gs, I, ea, hnb, hgs, hgo⟩ := h
  have hgl : gi < s.gens.size := (Array.getElem?_eq_some_iff.mp hgs).1
  refine wpAny_gsz (n := gi + 1) hgl (Gn3.next3 (F := fun _ s₀ s1 => ∃ ρ ip σ H', ∃ γ : L2.St, Fam (Cc X pins) g.fs cs nb ρ0 s₀ γ ρ ∧ Inv (on g ρ) ip σ H' s1 ∧ Q γ H') (Er := fun e s1 => CX g.prog g.w outer Hc sc E e s1 ∧ s1.heap.IsGen a gi) hh I.nolimit hroom (hgen _ ea) hgs (fun _ _ _ _ z => z) hgo
    (fun v s₁ gs' hsu hbare hv => ?_) (fun s₁ hp h' hk => ?_) fun e s₁ he => ?_)
  · intro hsz
    obtain ⟨ρ, ip, σg, H1, x, k, γ, F, av, hn, rv, Ig, y⟩ := hv
    obtain ⟨H00, I00⟩ := F.c
    have I1 := yielded L F I00 Ig (hY _ _ _ _ _ y)
    have eas : (s.setGen gi .running).heap.get? a = some go := ea
    have q : (a, go) ∈ ρ.pn := by rw [F.pn]; exact mem_pinsAt ha eas
    obtain ⟨h1, h2, h3, h4, h5⟩ := Ig.pin (a, go) (List.mem_append_left _ q)
    have al : a ≠ X.env.locals := fun z => by
      obtain ⟨_, ⟨o7, es, ep, e7, d, _⟩, _⟩ := I1.loc
      obtain ⟨vs, hgd⟩ := hgd
      rw [z] at h1
      have q7 : go = o7 := get_one h1 e7
      rw [q7, d] at hgd; cases hgd
    have hsz1 : gi < s₁.gens.size := by
      have q : (s₁.setGen gi gs').gens.size = s₁.gens.size := setGen_size _ _ _
      have hsz' : gi + 1 ≤ (s₁.setGen gi gs').gens.size := hsz
      omega
    have I1s : Inv X (pins ++ free X H1 s₁.heap) γ H1 (s₁.setGen gi gs') := Gl.inv_gens (free_inv I1) (allBare_setGen I1.bare hbare)
    refine ⟨γ, H1, x, k, gs', I1s, rv, setGen_at hsz1, hsu, h1, mono _ _ _ _ _ _ (fun γ2 H2 z t I7 et => ?_) y⟩
    have I7 : Inv X (pins ++ free X H1 s₁.heap) γ2 H2 t := I7
    have I7r : Inv X (pins ++ free X H1 s₁.heap) γ2 H2 (t.setGen gi .running) := Gl.inv_gens I7 (allBare_setGen I7.bare rfl)
    obtain ⟨F2, av2, Ig2⟩ := rested L F av Ig I7r ⟨H2, Inv.unpinned I7r⟩
    have z := z _ _ F2 av2 Ig2
    cases n with
    | zero => exact (show False from z).elim
    | succ m =>
      have z : gs'.Goes (model X.prog X.w) X.A.in1 _ (Pr g (Fam (Cc X pins) g.fs cs nb ρ0) Y) m (.send .none) (t.setGen gi .running) := z
      refine ⟨m, Nat.lt_succ_self m, γ2, H2, gs', Inv.unpinned I7, ?_, F2.nbE, et, z⟩
      exact (I7.pin (a, go) (List.mem_append_right _ (List.mem_append_right _ (mem_free.mpr ⟨h1, h2, al, fun z => h4 (L.sub a z), h5⟩)))).1
  · intro _
    obtain ⟨ρ, ip, σg, H1, γ, F, Ig, q⟩ := hp
    obtain ⟨H00, I00⟩ := F.c
    have I1 := yielded L F I00 Ig (hQ _ _ q)
    have I2 : Inv X pins γ H1 (s₁.setGen gi .finished) := Gl.inv_gens I1 (allBare_setGen I1.bare rfl)
    exact ⟨γ, H1, I2.kept (t' := s₁.toks) hk, q⟩
  · obtain ⟨hc, hg⟩ := he
    obtain ⟨q1, q2⟩ := hE e s₁ hc
    exact ⟨hg, q1, fun _ => q2⟩
end
end Lg
/-! for over an own generator, in a def. -/
namespace Lg
open PySem PySem.Spec PyProof.Rows GenW L2 G3
theorem cells_nil : ∀ {names : List (Str × NameKind)} {n : Nat} {acc : List (Str × Addr)}, (∀ y ∈ names, y.2 ≠ .cell) → cellsFrom n names acc = acc
  | [], _, _, _ => rfl
  | (x, k) :: r, n, acc, h => by
    unfold cellsFrom
    have hk : (k == NameKind.cell) = false := by simpa using h (x, k) List.mem_cons_self
    rw [hk]
    exact cells_nil fun y hy => h y (List.mem_cons_of_mem _ hy)
/-- the consumer's own cells -/
def csOf (X : Cx) : List Addr := (X.env.cells.filter fun p => decide (X.env.cells.lookup p.1 = some p.2)).map (·.2)
theorem csOf_mem {X : Cx} {x : Str} {c : Addr} (e : X.env.cells.lookup x = some c) : c ∈ csOf X :=
  List.mem_map.mpr ⟨(x, c), List.mem_filter.mpr ⟨PySem.mem_of_lookup e, by simpa using e⟩, rfl⟩
theorem of_csOf {X : Cx} {c : Addr} (m : c ∈ csOf X) : ∃ x, X.env.cells.lookup x = some c := by
  obtain ⟨p, hp, rfl⟩ := List.mem_map.mp m
  exact ⟨p.1, by simpa using (List.mem_filter.mp hp).2⟩
/-- a cell that nobody knows: neither the consumer's nor one that stood when it was called -/
def Lost (X : Cx) (gfs : List Addr) (Hc : Hp) (sc : Shared) (b : Addr) : Prop := ∃ o v, sc.heap.get? b = some o ∧ o.data = .cell v ∧ Hc b = none ∧ b ∉ csOf X ∧ b ∉ gfs ∧ ¬ (X.s_0.heap.get? b = some o ∧ X.H_0 b = none)
open Classical in
noncomputable def rH (X : Cx) (gfs : List Addr) (Hc : Hp) (sc : Shared) : Hp := fun b => if Hc b = none ∧ ¬ Lost X gfs Hc sc b then none else some ((X.H_0 b).getD (.ext fun _ => True))
def Keeps (X : Cx) (gfs : List Addr) (Hc : Hp) (sc : Shared) (b : Addr) : Prop := rH X gfs Hc sc b = none ∨ ∃ o, X.s_0.heap.get? b = some o
open Classical in
noncomputable def rG (X : Cx) (gfs : List Addr) (Hc : Hp) (sc : Shared) : Heap := PySem.W.hideAll sc.heap ((List.range sc.heap.objs.size).filter fun b => !decide (Keeps X gfs Hc sc b))
section
variable {X : Cx} {gfs : List Addr} {Hc : Hp} {sc : Shared} {b : Addr} {o : Obj}
theorem rH_none (h : Hc b = none) (n : ¬ Lost X gfs Hc sc b) : rH X gfs Hc sc b = none := by
  unfold rH
  rw [if_pos ⟨h, n⟩]
theorem of_rH_none (h : rH X gfs Hc sc b = none) : Hc b = none ∧ ¬ Lost X gfs Hc sc b := by
  unfold rH at h
  split at h
  · assumption
  · cases h
theorem rH_some {u : HO} (h : Hc b ≠ none) (e : X.H_0 b = some u) : rH X gfs Hc sc b = some u := by
  unfold rH
  rw [if_neg (fun z => h z.1), e]
  rfl
theorem of_rH {u : HO} (h : rH X gfs Hc sc b = some u) (ne : ∀ φ, u ≠ .ext φ) : X.H_0 b = some u := by
  unfold rH at h
  split at h
  · cases h
  · cases e : X.H_0 b with
    | none => rw [e] at h; exact absurd (Option.some.inj h).symm (ne _)
    | some v => rw [e] at h; rw [← Option.some.inj h]; rfl
theorem rG_sub (e : (rG X gfs Hc sc).get? b = some o) : sc.heap.get? b = some o := PySem.W.of_hideAll _ e
theorem rG_keeps (e : (rG X gfs Hc sc).get? b = some o) : Keeps X gfs Hc sc b := by
  apply Classical.byContradiction
  intro n
  have m : b ∈ (List.range sc.heap.objs.size).filter fun b => !@decide (Keeps X gfs Hc sc b) (Classical.propDecidable _) := List.mem_filter.mpr ⟨List.mem_range.mpr (Heap.lt_size (rG_sub e)), by simpa using n⟩
  have z : (rG X gfs Hc sc).get? b = none := PySem.W.hideAll_none _ m
  rw [z] at e; cases e
theorem rG_get (k : Keeps X gfs Hc sc b) (e : sc.heap.get? b = some o) : (rG X gfs Hc sc).get? b = some o := PySem.W.hideAll_get _ e fun m => by
  have q := (List.mem_filter.mp m).2
  have : ¬ Keeps X gfs Hc sc b := by simpa using q
  exact this k
end
noncomputable def rho (X : Cx) (gfs : List Addr) (Hc : Hp) (sc : Shared) (pn : List (Addr × Obj)) : Rn := ⟨{ sc with heap := rG X gfs Hc sc }, rH X gfs Hc sc, fun _ _ => False, pn⟩
section
variable {X : Cx} {pins : List (Addr × Obj)} {σ : L2.St} {Hc : Hp} {sc : Shared} {N : List Str} {qual : Str} {scope : Scope} {f : Addr} {cdv : Value} {A : Around} {E : XK} {pn : List (Addr × Obj)} {a : Addr}
theorem lk_def (I : Inv X pins σ Hc sc) (hex : X.ex = []) (hst : X.stack = X.env :: X.outer) (hfr : X.env.frame = some X.env.locals) (hfn : ∀ x, X.fn x = true) (hgc : ∀ y ∈ scope.names, y.2 ≠ .cell) (pn' : List (Addr × Obj)) :
    Lk X pins (gcxOf X.prog X.w X.K X.mg X.base N qual scope f cdv A X.stack sc Hc E pn) (csOf X) [a] [] (rho X (frs X.stack) Hc sc pn') := by
  have fsE : frs X.stack = X.env.locals :: X.fs := by
    rw [hst]
    unfold frs
    rw [List.filterMap_cons, hfr]
    rfl
  have nx : ∀ b : Addr, b ∉ X.ex := fun b z => by rw [hex] at z; cases z
  have csF : ∀ c ∈ csOf X, c ∉ X.fs ∧ c ≠ X.env.locals ∧ Hc c = none ∧ ∃ o, sc.heap.get? c = some o := fun c m => by
    obtain ⟨x, e⟩ := of_csOf m
    refine ⟨fun z => ?_, I.cne x c e, I.freeC x c e, ?_⟩
    · obtain ⟨_, o, eo, _⟩ := I.ok.funs.mem z
      exact absurd (Nat.lt_of_lt_of_le (Heap.lt_size eo) (I.ok.cab x c (hfn x) e)) (Nat.lt_irrefl _)
    · obtain ⟨_, o, q, _⟩ := I.cell x c e
      exact ⟨o, q⟩
  have frmH : ∀ b ∈ frs X.stack, rH X (frs X.stack) Hc sc b = none := fun b m => rH_none (I.stkFree b m) fun ⟨_, _, _, _, _, _, z, _⟩ => z m
  refine ⟨rfl, rfl, rfl, rfl, fun x => ?_, ⟨I.nofs (Nat.le_refl _), Nat.ne_of_gt I.lt⟩, fun b m => ?_, fun b m => ?_, fun x c e => ⟨csOf_mem e, (csF c (csOf_mem e)).1, (csF c (csOf_mem e)).2.1⟩, fun b m => of_csOf m, fun b m => ?_, fun b m => ?_, fun b m => ?_, .inl ?_, I.os, fun b o h nf nc => .inr ?_, fun b o e _ => .inr (.inr ?_), fun b xs e => ?_, fun b o u e => ?_, fun b ps e => ?_, fun b o v e n nf hv => ?_, fun b o e n => ?_, fun b xs e => of_rH e fun _ => by simp, fun b o u e => of_rH e fun _ => by simp, fun b ps e => of_rH e fun _ => by simp⟩
  · show (cellsFrom (sc.heap.objs.size + 1) scope.names []).lookup x = none
    rw [cells_nil hgc]; rfl
  · show b ∈ frs X.stack
    rw [fsE]; exact List.mem_cons_of_mem _ m
  · have m : b ∈ frs X.stack := m
    rw [fsE] at m
    exact List.mem_cons.mp m
  · exact rH_none (csF b m).2.2.1 fun ⟨_, _, _, _, _, z, _⟩ => z m
  · obtain ⟨_, _, h, o, e⟩ := csF b m
    exact ⟨o, rG_get (.inl (rH_none h fun ⟨_, _, _, _, _, z, _⟩ => z m)) e⟩
  · have m : b ∈ frs X.stack := m
    have e : ∃ o, sc.heap.get? b = some o := by
      obtain ⟨_, o, e, _⟩ := I.stack.mem m
      exact ⟨o, e⟩
    obtain ⟨o, e⟩ := e
    exact ⟨o, rG_get (.inl (frmH b m)) e⟩
  · show X.env.locals ∈ frs X.stack
    rw [fsE]; exact List.mem_cons_self
  · have nf : b ∉ frs X.stack := nf
    rw [fsE] at nf
    have nX : b ∉ X.fs := fun z => nf (List.mem_cons_of_mem _ z)
    have both : sc.heap.get? b = some o ∧ Hc b = none ∧ ¬ Lost X (frs X.stack) Hc sc b := by
      rcases h with ⟨h1, h2, _⟩ | h
      · have k := I.base.keep b o h1 h2 nX (nx b)
        refine ⟨k, I.base.free b o h1 h2 (nx b), fun ⟨o', _, e', _, _, _, _, z⟩ => z ⟨?_, h2⟩⟩
        rw [← get_one k e']; exact h1
      · obtain ⟨h1, h2, _, _, h5⟩ := I.pin (b, o) h
        refine ⟨h1, h2, fun ⟨o', v, e', d, _⟩ => h5 v ?_⟩
        have q : o = o' := get_one h1 e'
        rw [← q] at d
        exact d
    obtain ⟨k1, k2, k3⟩ := both
    exact ⟨rG_get (.inl (rH_none k2 k3)) k1, rH_none k2 k3⟩
  · obtain ⟨o', e'⟩ := I.base.there b o e (nx b)
    exact ⟨o', rG_get (.inr ⟨o, e⟩) e'⟩
  · exact rH_some (by rw [I.base.tups b xs e]; simp) e
  · exact rH_some (by rw [I.base.frzs b o u e]; simp) e
  · obtain ⟨m, q⟩ := I.base.tbls b ps e
    exact rH_some (by rw [q]; simp) e
  · by_cases mc : b ∈ csOf X
    · exact .inl mc
    · obtain ⟨h1, h2⟩ := of_rH_none n
      have e : sc.heap.get? b = some o := rG_sub e
      by_cases z : X.s_0.heap.get? b = some o ∧ X.H_0 b = none
      · exact .inr ⟨z.1, z.2, nx b⟩
      · exact absurd ⟨o, v, e, hv, h1, mc, nf, z⟩ h2
  · rcases rG_keeps e with k | ⟨o', k⟩
    · exact absurd k n
    · exact ⟨o', k, nx b⟩
theorem ren_def (I : Inv X pins σ Hc sc) (pn' : List (Addr × Obj)) (hex : X.ex = []) : Ren (gcxOf X.prog X.w X.K X.mg X.base N qual scope f cdv A X.stack sc Hc E pn) (rho X (frs X.stack) Hc sc pn') := by
  have nx : ∀ b : Addr, b ∉ X.ex := fun b z => by rw [hex] at z; cases z
  refine ⟨⟨fun b o e => rG_sub e, fun b o _ n => (of_rH_none n).1, fun b xs e => I.base.tups b xs (of_rH e fun _ => by simp), fun b o u e => I.base.frzs b o u (of_rH e fun _ => by simp), fun b ps e => I.base.tbls b ps (of_rH e fun _ => by simp)⟩, ?_, rfl, fun b o e => ?_, fun b m => ?_⟩
  · show (PySem.W.hideAll _ _).objs.size = _
    rw [PySem.W.hideAll_size]; rfl
  · have e : X.base.get? b = some o := e
    obtain ⟨e1, n1⟩ := I.bs b o e
    obtain ⟨e0, n0⟩ := I.ok.bs b o e
    have nl : ¬ Lost X (frs X.stack) Hc sc b := fun ⟨o', _, e', _, _, _, _, z⟩ => z ⟨by rw [← get_one e1 e']; exact e0, n0⟩
    exact ⟨rG_get (.inl (rH_none n1 nl)) e1, rH_none n1 nl⟩
  · have m : b ∈ frs X.stack := m
    have h := rH_none (X := X) (gfs := frs X.stack) (sc := sc) (I.stkFree b m) fun ⟨_, _, _, _, _, _, z, _⟩ => z m
    exact ⟨h, fun o e => rG_get (.inl h) e⟩
end
end Lg
namespace Lg
open PySem PySem.Spec PyProof.Rows GenW L2 G3
/-- an expression whose value is a generator that has not begun: its arguments and the heap -/
structure PGen3 (X : Cx) (N : List Str) (qual : Str) (scope : Scope) (f : Addr) (cdv : Value) (k : Nat) (e : Expr) (tg : TA) (sp : Sp3) : Prop where
  run : ∀ (pins : List (Addr × Obj)) (s : Shared) (σ : L2.St) (H : Hp) (W : List V → Hp → Prop), Inv X pins σ H s → tg σ H W → wpAny (model X.prog X.w) X.A (eval e X.env)
    (fun u s' => ∃ vs H1 sc, Inv X pins σ H1 sc ∧ IsMade X.prog X.w (fun A E pn => gcxOf X.prog X.w X.K X.mg X.base N qual scope f cdv A X.stack sc H1 E pn) k X.stack sc H1 sp vs u s' ∧ W vs H1) X.xe s
/-- the consumer's turn -/
def Yc (g : TG) (tb : TS) (D : Ends) : Tn := fun _ x γ H P => ∃ N : L2.St → Hp → Prop, (∀ γ2 H2, N γ2 H2 → P γ2 H2) ∧ g x γ H fun σ2 H2 => tb { D with nx := N, ct := N, bk := D.nx } σ2 H2
theorem yc_mono {g : TG} {tb : TS} {D : Ends} : Mono (Yc g tb D) := fun _ _ _ _ _ _ h ⟨N, a, b⟩ => ⟨N, fun γ2 H2 z => h _ _ (a γ2 H2 z), b⟩
def tForG (tg : TA) (sp : Sp3) (E : XK) (g : TG) (tb : TS) : TS := fun D σ H => tg σ H fun vs H1 => sp vs H1 σ (Yc g tb D) D.nx E
section
variable {X : Cx} {N : List Str} {qual : Str} {scope : Scope} {f : Addr} {cdv : Value} {k : Nat} {sp : Sp3} {E : XK} {e tg : Expr} {tgn : TA} {g : TG} {body : List Stmt} {tb : TS} {pos : Pos}
theorem wpF {α : Type} {t : Sem α} {Q Q' : α → Shared → Prop} {M : Model} {A : Around} {E : Value → Shared → Prop} {s : Shared} (h : wpAny M A t Q (fun _ _ => False) s) (hQ : ∀ a s, Q a s → Q' a s) : wpAny M A t Q' E s := wpAny_mono h hQ fun _ _ z => False.elim z
theorem calm_nox {X : Cx} : Gl.Calm X.nox := fun _ _ _ z => z
/-- what leaves the generator, for its caller -/
theorem cx_exc {pins : List (Addr × Obj)} {σ : L2.St} {H1 : Hp} {sc : Shared} {gi : Nat} (hx : Passes (CX X.prog X.w) X E) (hns : NoStop X.K E) (I1 : Inv X pins σ H1 sc) : ∀ e s₁, CX X.prog X.w X.stack H1 sc E e s₁ → NotStop (model X.prog X.w) e s₁.heap ∧ X.xe e (s₁.setGen gi .finished) := fun e s' hc => by
  have kin : X.K.In s'.heap := by
    obtain ⟨a, B, H', cls, d, _, fl, _, ub, _⟩ := id hc
    refine I1.ok.mod.kin.keeps fun b o eb => fl.1 b o (ub.keep b o (I1.bs b o eb).1 (I1.bs b o eb).2 fun hm => ?_)
    rcases List.mem_cons.mp (I1.stkSub b hm) with z | z
    · have h1 := Heap.lt_size eb
      have h2 := Nat.le_trans I1.ok.bsz I1.ok.above
      rw [z] at h1
      exact absurd (Nat.lt_of_lt_of_le h1 h2) (Nat.lt_irrefl _)
    · exact I1.ok.nofr eb z
  refine ⟨notStop_of hns kin hc, hx pins σ H1 sc e _ I1 ?_⟩
  obtain ⟨a, B, H', cls, d, z1, fl, z2, ub, z3, z4, z5, z6⟩ := hc
  exact ⟨a, B, H', cls, d, z1, fl, z2, ub, z3, z4, allBare_setGen z5 rfl, z6⟩
theorem sp_wish {pins fr : List (Addr × Obj)} {D : Ends} {f : Flow} {s : Shared} (h : SP X.nox (pins ++ fr) D f s) : SP X pins D f s := by
  cases f with
  | next => obtain ⟨σ, H, I, q⟩ := h; exact ⟨σ, H, Inv.unpinned (Inv.unwish I), q⟩
  | brk => obtain ⟨σ, H, I, q⟩ := h; exact ⟨σ, H, Inv.unpinned (Inv.unwish I), q⟩
  | cont => obtain ⟨σ, H, I, q⟩ := h; exact ⟨σ, H, Inv.unpinned (Inv.unwish I), q⟩
  | ret u => obtain ⟨v, σ, H, I, r, q⟩ := h; exact ⟨v, σ, H, Inv.unpinned (Inv.unwish I), r, q⟩
/-- THE RULE -/
theorem ps_forG (hp : PassesOwn (model X.prog X.w) X.A X.env X.xe) (hc : X.calm = true) (hst : X.stack = X.env :: X.outer) (hfr : X.env.frame = some X.env.locals) (hfn : ∀ x, X.fn x = true) (hex : X.ex = []) (hgc : ∀ y ∈ scope.names, y.2 ≠ .cell) (hr : Room (k + 1) X.A)
    (hgen : PGen3 X N qual scope f cdv k e tgn sp) (hx : Passes (CX X.prog X.w) X E) (hns : NoStop X.K E) (hg : PG X.nox tg g) (hb : PSs X.nox body tb)
    (hs : ∀ x, foldedSetIterable e X.env x = pure x := by intro _; rfl) : PS X (.For tg e body [] pos) (tForG tgn sp E g tb) := by
  refine ⟨fun pins s σ H D I h => ?_⟩
  refine wpAny_For (thn (hgen.run pins s σ H _ I h) fun u s1 hu => ?_) hs
  obtain ⟨vs, H1, sc, I1, ⟨a, gi, c, go, rfl, M⟩, w⟩ := hu
  refine wpAny_pyIter_gen (M.gen _ M.at_) ?_
  have I1' : Inv X pins σ H1 s1 := I1.call' (ch := []) M.os (Un.kept M.keep) (I1.hok.kept M.keep) M.bare fun b z => by simp at z
  have L := lk_def (N := N) (qual := qual) (scope := scope) (f := f) (cdv := cdv) (A := X.A.in1) (E := E) (pn := []) (a := a) I1 hex hst hfr hfn hgc []
  have hhd : X.A.handled = none := I.ok.hd hc
  have hE := cx_exc (X := X) (gi := gi) hx hns I1
  have hfs : ∀ n s', LI X pins (gcxOf X.prog X.w X.K X.mg X.base N qual scope f cdv X.A.in1 X.stack sc H1 E []) (Fam (Cc X pins) (frs X.stack) (csOf X) [a] (rho X (frs X.stack) H1 sc [])) (End3 (gcxOf X.prog X.w X.K X.mg X.base N qual scope f cdv X.A.in1 X.stack sc H1 E []) (Fam (Cc X pins) (frs X.stack) (csOf X) [a] (rho X (frs X.stack) H1 sc [])) D.nx X.stack H1 sc E a gi) (Yc g tb D) a gi go [a] n s' →
      codeAny (model X.prog X.w) X.A (.forLoop tg (.ref a) body [] X.env) (fun r s' => match r with | .ok f => SP X pins D f s' | .error e => cameBackBy (model X.prog X.w) X.A X.env X.xe e s') s' := fun n s' h0 => by
    refine codeAny_forLoop_any (fun n s' => LI X pins (gcxOf X.prog X.w X.K X.mg X.base N qual scope f cdv X.A.in1 X.stack sc H1 E []) (Fam (Cc X pins) (frs X.stack) (csOf X) [a] (rho X (frs X.stack) H1 sc [])) (End3 (gcxOf X.prog X.w X.K X.mg X.base N qual scope f cdv X.A.in1 X.stack sc H1 E []) (Fam (Cc X pins) (frs X.stack) (csOf X) [a] (rho X (frs X.stack) H1 sc [])) D.nx X.stack H1 sc E a gi) (Yc g tb D) a gi go [a] n s') ?_ n h0
    intro n s2 h2
    refine wpAny_passesOwn hp (wpAny_mono (next_g (E1 := X.xe) L yc_mono List.mem_cons_self M.gen M.data hhd (by have := hr.dp; omega) (fun _ _ _ b z => nomatch z) (fun _ _ _ _ _ _ b z => nomatch z) hE h2) (fun r s3 h3 => ?_) fun _ _ z => z)
    cases r with
    | none =>
      obtain ⟨γ, H3, I3, q⟩ := h3
      exact wpAny_execs_nil ⟨γ, H3, I3, q⟩
    | some v =>
      obtain ⟨γ, H3, x, kk, gs', I3, rv, eg, hsu, ea, Nn, hN, hgx⟩ := h3
      obtain ⟨vsd, hdat⟩ := M.data
      refine go_of ea M.cls hdat (by decide) ?_
      refine wpF (Gl.goes_ni (X := X.nox) hg calm_nox (I3.wish _) rv hgx) fun _ s4 h4 => ?_
      obtain ⟨⟨σ4, H4, I4, q4⟩, kp4⟩ := h4
      refine wpF (Gl.body_ni (X := X.nox) hb calm_nox I4 q4) fun fl s5 h5 => ?_
      obtain ⟨h5, kp5⟩ := h5
      have eg5 : s5.gens[gi]? = some gs' := by
        obtain ⟨k0, l0, c0, p0, f0, cl0, rfl⟩ := hsu
        exact kp5 _ _ _ _ _ _ _ (kp4 _ _ _ _ _ _ _ eg)
      cases fl with
      | next =>
        obtain ⟨σ5, H5, I5, q5⟩ := h5
        exact hN _ _ q5 s5 (Inv.unwish I5) eg5
      | cont =>
        obtain ⟨σ5, H5, I5, q5⟩ := h5
        exact hN _ _ q5 s5 (Inv.unwish I5) eg5
      | brk => exact sp_wish (D := { D with nx := D.nx }) (f := .next) h5
      | ret u => exact sp_wish (D := D) (f := .ret u) h5
  refine hfs sizeLine s1 ⟨σ, H1, _, I1', M.at_, fun b m => ?_, M.st, rfl, ?_⟩
  · rw [List.mem_singleton.mp m]
    exact ⟨go, M.at_⟩
  · refine M.wake X.A.in1 (s1.setGen gi .running) H1 σ (Yc g tb D) D.nx E (Fam (Cc X pins) (frs X.stack) (csOf X) [a] (rho X (frs X.stack) H1 sc [])) (rho X (frs X.stack) H1 sc [(a, go)]) hr.in1 I.ok.frames (fun b o e => e) M.os (allBare_setGen M.bare rfl) I1'.hok (fun _ _ => rfl) (ren_def I1 _ hex) (fun p hp => ?_) List.mem_cons_self (fun _ _ _ F => ⟨?_, F.xe⟩) ?_ yc_mono w
    · rw [List.mem_singleton.mp hp]
      have sza := M.gl2
      refine ⟨M.at_, I1.hok.fresh (Nat.le_trans M.gl1 (Nat.le_of_lt M.gl2)), Nat.ne_of_gt M.gl2, ?_, fun v z => ?_⟩
      · intro z
        rcases List.mem_cons.mp (I1.stkSub a z) with z | z
        · exact absurd (Nat.lt_of_lt_of_le I1.lt (Nat.le_of_lt (show sc.heap.objs.size < a from M.gl2))) (by rw [← z]; exact Nat.lt_irrefl _)
        · exact I1.nofs (Nat.le_of_lt M.gl2) z
      · obtain ⟨vsd, hdat⟩ := M.data
        have z : go.data = .cell v := z
        rw [hdat] at z; cases z
    · rw [F.sz]
      show (PySem.W.hideAll _ _).objs.size = _
      rw [PySem.W.hideAll_size]
    · refine ⟨⟨H1, Gl.inv_gens I1' (allBare_setGen M.bare rfl)⟩, rfl, rfl, rfl, fun _ _ _ => rfl, fun b m o e => ⟨o.slots, M.keep b o (rG_sub e)⟩, fun b m => ?_, ?_, fun b m => ?_, rfl⟩
      · obtain ⟨o, e⟩ := L.csT b m
        have e : (rG X (frs X.stack) H1 sc).get? b = some o := e
        show (rG X (frs X.stack) H1 sc).get? b = s1.heap.get? b
        rw [e, M.keep b o (rG_sub e)]
      · show [(a, go)] = pinsAt [a] s1.heap
        unfold pinsAt
        rw [List.filterMap_cons, M.at_]
        rfl
      · rw [List.mem_singleton.mp m]
        exact ⟨go, M.at_⟩
end
end Lg
/-! calls that make a generator -/
namespace Lg
open PySem PySem.Spec PyProof.Rows GenW L2 G3
section
variable {X : Cx} {N : List Str} {qual : Str} {scope : Scope} {f C : Addr} {cdv : Value} {k : Nat} {sp : Sp3} {fd : FuncData} {ps : List Str} {dvs : List V} {ds : List Value} {x m : Str} {p pos pos' apos : Pos} {o : Expr} {ta : TE}
def tCallG3 (n : Nat) (dvs : List V) (t : TA) : TA := fun σ H W => t σ H fun vs H1 => (vs ++ dvs).length = n ∧ W (vs ++ dvs) H1
def tMethG3 (C : Addr) (m : Str) (n : Nat) (dvs : List V) (ta : TE) (t : TA) : TA := fun σ H W => ta σ H fun x H1 => ∃ a dx fs, x = .ref a ∧ H1 a = some (.ins C dx fs) ∧ fs.lookup m = none ∧
  t σ H1 fun vs H2 => (x :: (vs ++ dvs)).length = n ∧ W (x :: (vs ++ dvs)) H2
/-- f(e, ..) of a generator def -/
theorem pgen3_call {e : Expr} {es : List Expr} {t : TA} (F : GFn3 X.prog X.w X.K X.mg X.base N qual scope cdv k f fd ps sp) (hr : Room k X.A) (hg : Gl X x) (hm : X.mg x = some (.ref f)) (hk : PySem.W.keepIn X.K (.ref f) = true) (hb : Binds X.K fd ps ds) (hd : Vals dvs ds)
    (ha : PA X (e :: es) t) (hdb : (x == ("__debug__" : Str)) = false := by decide) (he : starEach (e :: es) X.env = (false, eval e X.env) :: starEach es X.env := by rfl) (hpl : (backTo pos' (starEach es X.env)).any (·.1) = false := by rfl) :
    PGen3 X N qual scope f cdv k (.Call (.Name x p) (e :: es) [] pos') (tCallG3 ps.length dvs t) sp := by
  refine ⟨fun pins s σ H W I h => ?_⟩
  refine wpAny_Call_Name_kw (ld_glob I hg hm ?_ hdb)
  refine PySem.W.callWith_K (h₀ := X.base) I.ok.mod.kin hk (thn (ha.run pos' pins s σ H _ I h) fun us s1 ⟨vs, H1, I1, r, hl, q⟩ => ⟨I1.kIn, ?_⟩) he hpl
  exact thn (run_gfn3 F hr hb hd I1 r hl) fun u s' hu => ⟨_, H1, s1, I1, hu, q⟩
/-- o.m(e, ..) of a generator method -/
theorem pgen3_meth {pl : Sem Bool} {e : Expr} {es : List Expr} {t : TA} (he : PE X o ta) (c : Cls X.K C) (hm : Meth X.K C m f) (F : GFn3 X.prog X.w X.K X.mg X.base N qual scope cdv k f fd ps sp) (hr : Room k X.A) (hb : Binds X.K fd ps ds) (hd : Vals dvs ds) (ha : PA X (e :: es) t)
    (hst : starEach (e :: es) X.env = (false, eval e X.env) :: starEach es X.env := by rfl) (hpl : (backTo pos' (starEach es X.env)).any (·.1) = false := by rfl)
    (ht : eval (.Call (.Attribute o m apos) (e :: es) [] pos') X.env = (do
      let ov ← eval o X.env
      standAt apos.atName
      let (f, first) ← holding [ov] (getMethod ov m pl)
      callWith pos' f first (backTo pos' (starEach (e :: es) X.env)) (backToKw pos' (keywordEach [] X.env))) := by rfl) :
    PGen3 X N qual scope f cdv k (.Call (.Attribute o m apos) (e :: es) [] pos') (tMethG3 C m ps.length dvs ta t) sp := by
  refine ⟨fun pins s σ H W I h => ?_⟩
  refine PySem.W.methodCall_KW (pl := pl) (thn (he.run pins s σ H _ I h) fun u s1 ⟨x, H1, I1, rx, a, dx, fs, ex, ea, l, q⟩ => ?_) ht
  subst ex
  obtain rfl : u = Value.ref a := rx
  refine getmeth_ok I1 ea c hm l ?_
  refine PySem.W.callWith_K (first := [.ref a]) (h₀ := X.base) I.ok.mod.kin hm.kp (thn (ha.run pos' pins s1 σ H1 _ I1 q) fun us s2 ⟨vs, H2, I2, r, hl, q2⟩ => ⟨I2.kIn, ?_⟩) hst hpl
  exact thn (run_gfn3 (us := .ref a :: us) (vs := .ref a :: vs) F hr hb hd I2 (.cons rfl r) hl) fun u s' hu => ⟨_, H2, s2, I2, hu, q2⟩
/-- o.m() of a generator method -/
theorem pgen3_meth0 {pl : Sem Bool} (he : PE X o ta) (c : Cls X.K C) (hm : Meth X.K C m f) (F : GFn3 X.prog X.w X.K X.mg X.base N qual scope cdv k f fd ps sp) (hr : Room k X.A) (hb : Binds X.K fd ps ds) (hd : Vals dvs ds)
    (ht : eval (.Call (.Attribute o m apos) [] [] pos') X.env = (do
      let ov ← eval o X.env
      standAt apos.atName
      let (f, first) ← holding [ov] (getMethod ov m pl)
      callWith pos' f first (backTo pos' (starEach [] X.env)) (backToKw pos' (keywordEach [] X.env))) := by rfl) :
    PGen3 X N qual scope f cdv k (.Call (.Attribute o m apos) [] [] pos') (tMethG3 C m ps.length dvs ta tNil) sp := by
  refine ⟨fun pins s σ H W I h => ?_⟩
  refine PySem.W.methodCall_KW (pl := pl) (thn (he.run pins s σ H _ I h) fun u s1 ⟨x, H1, I1, rx, a, dx, fs, ex, ea, l, q⟩ => ?_) ht
  subst ex
  obtain rfl : u = Value.ref a := rx
  refine getmeth_ok I1 ea c hm l ?_
  have q : (V.ref a :: ([] ++ dvs)).length = ps.length ∧ W (.ref a :: ([] ++ dvs)) H1 := q
  exact PySem.W.callWith_K0 (first := [.ref a]) I1.kIn hm.kp (thn (run_gfn3 (us := [.ref a]) (vs := [.ref a]) F hr hb hd I1 (.cons rfl .nil) q.1) fun u s' hu => ⟨_, H1, s1, I1, hu, q.2⟩)
end
end Lg

/-! Two lists of the same texts and truths. -/
namespace Tx3
open PySem PySem.Spec PyProof.Rows L2
def tb : V → Bool
  | .str _ => true
  | .bl _ => true
  | _ => false
def rTx (r : Bool) (K : PySem.W.Frag) : R2 := fun x y H Q => ∃ p q xs, x = .ref p ∧ y = .ref q ∧ SqL K H p xs ∧ SqL K H q xs ∧ xs.all tb = true ∧ Q (.bl r) H
theorem tb_eq {A : Around} {s : Shared} {x : V} {v u : Value} (h : tb x = true) (a : RelV x v) (b : RelV x u) : SeqAt.EqAt A s v u true := by
  match x, h, a, b with
  | .str t, _, a, b =>
    obtain ⟨k, rfl⟩ := a
    obtain ⟨m, rfl⟩ := b
    have := SeqAt.EqAt.str_str (A := A) (s := s) t k t m
    simpa using this
  | .bl t, _, a, b =>
    cases a
    cases b
    have := SeqAt.EqAt.bool_bool (A := A) (s := s) t t
    simpa using this
theorem tbs_eq {A : Around} {s : Shared} : ∀ {xs : List V} {vs us : List Value}, xs.all tb = true → Vals xs vs → Vals xs us → vs.length = us.length ∧ ∀ j (h1 : j < vs.length) (h2 : j < us.length), SeqAt.EqAt A s vs[j] us[j] true
  | [], _, _, _, a, b => by cases a; cases b; exact ⟨rfl, fun j h => absurd h (Nat.not_lt_zero j)⟩
  | x :: xs, _, _, h, a, b => by
    cases a with
    | cons a1 a2 =>
      cases b with
      | cons b1 b2 =>
        rw [List.all_cons, Bool.and_eq_true] at h
        obtain ⟨e, f⟩ := tbs_eq (A := A) (s := s) h.2 a2 b2
        refine ⟨by simp [e], fun j h1 h2 => ?_⟩
        cases j with
        | zero => exact tb_eq h.1 a1 b1
        | succ j => exact f j (Nat.lt_of_succ_lt_succ h1) (Nat.lt_of_succ_lt_succ h2)
theorem all_t (n : Nat) : (List.range n).all (fun _ => true) = true := by simp
theorem op_eqTx {X : Cx} (hu : X.A.units + 64 < cLine) : OpR X (compareOp .Eq) (rTx true X.K) := by
  intro pins s σ H x y v u Q I rx ry h
  obtain ⟨p, q, xs, rfl, rfl, hp, hq, ht, h⟩ := h
  cases rx
  cases ry
  obtain ⟨its, r1, p1, _⟩ := I.list hp
  obtain ⟨jts, r2, p2, _⟩ := I.list hq
  obtain ⟨l, f⟩ := tbs_eq (A := X.A.in1) (s := s) ht r1 r2
  have e := PySem.SeqAt.RcAt.lists (A := X.A) (s := s) (e := fun _ => true) p1.isList p2.isList (by simpa using l) (by omega) (fun j h1 h2 => by simpa using f j (by simpa using h1) (by simpa using h2))
  rw [all_t] at e
  exact e X.prog X.w X.xe _ ⟨.bl true, H, I, rfl, h⟩
theorem op_neTx {X : Cx} (hu : X.A.units + 64 < cLine) : OpR X (compareOp .NotEq) (rTx false X.K) := by
  intro pins s σ H x y v u Q I rx ry h
  obtain ⟨p, q, xs, rfl, rfl, hp, hq, ht, h⟩ := h
  cases rx
  cases ry
  obtain ⟨its, r1, p1, _⟩ := I.list hp
  obtain ⟨jts, r2, p2, _⟩ := I.list hq
  obtain ⟨l, f⟩ := tbs_eq (A := X.A.in1) (s := s) ht r1 r2
  have e := PySem.SeqAt.RcNeAt.lists (A := X.A) (s := s) (e := fun _ => true) p1.isList p2.isList (by simpa using l) (by omega) (fun j h1 h2 => by simpa using f j (by simpa using h1) (by simpa using h2))
  rw [all_t] at e
  exact e X.prog X.w X.xe _ ⟨.bl false, H, I, rfl, h⟩
end Tx3

/-! list(text); a call that may raise in a try, where no StopIteration comes. -/
namespace St2
open PySem PySem.Spec PyProof.Rows L2
theorem passLN {X : Cx} {W : WX} (n : Nat) (hn : X.N.length = n) (tk : Takes X W) : Passes (L2.CX X.prog X.w) X (fun cls d H => PySem.W.subIn X.K cls (.type "StopIteration") = some false ∧ ∀ σ : L2.St, σ.length = n → W cls d σ H) :=
  fun _ σ _ _ e s' I c => tk e s' (XE.of_call I (fun _ _ _ h => h.2 σ (I.len.trans hn)) c)
theorem pss_two {X : Cx} {a b : Stmt} {t u v : TS} (h : PS X a t) (g : PS X b u) (e : v = tSeq t u) : PSs X [a, b] v := by
  subst e
  exact pss_cons h (pss_one g)
/-- C(e, ..) whose __init__ may raise: what is raised is wished for at the slots as they stand -/
def tMakeS (C : Addr) (sp : Sp) (E : L2.St → XK) (t : TA) : TE := fun σ H Q => t σ H fun vs H1 => ∀ x dx, H1 x = none → H1 dx = none → dx ≠ x →
  sp (.ref x :: vs) (upd (upd H1 dx (.own x)) x (.ins C dx [])) (fun v H2 => v = .non ∧ Q (.ref x) H2) (E σ)
theorem pe_makeS {X : Cx} {CX : CXT} {k : Nat} {f C : Addr} {fd : FuncData} {ps : List Str} {sp : Sp} {E : L2.St → XK} {x : Str} {p pos : Pos} {e : Expr} {es : List Expr} {t : TA} (M : Mk X.K C f) (F : FnOk X.prog X.w X.K X.mg X.base CX k f fd ps sp) (hr : Room (k + 1) X.A) (hg : Gl X x) (hm : X.mg x = some (.ref C)) (hb : Binds X.K fd ps [])
    (hx : ∀ σ, PassesAt CX X σ (E σ)) (ha : PA X (e :: es) t) (hdb : (x == ("__debug__" : Str)) = false := by decide) (he : starEach (e :: es) X.env = (false, eval e X.env) :: starEach es X.env := by rfl) (hpl : (backTo pos (starEach es X.env)).any (·.1) = false := by rfl) :
    PE X (.Call (.Name x p) (e :: es) [] pos) (tMakeS C sp E t) := by
  constructor
  intro pins s σ H Q I h
  refine wpAny_Call_Name_kw (ld_glob I hg hm ?_ hdb)
  refine PySem.W.callWith_K (h₀ := X.base) I.ok.mod.kin M.kp (thn (ha.run pos pins s σ H _ I h) fun us s1 w => ?_) he hpl
  obtain ⟨vs, H1, J, r, q⟩ := w
  refine ⟨J.kIn, ?_⟩
  have free := J.hok.fresh (Nat.le_refl s1.heap.objs.size)
  have go := q (s1.heap.objs.size + 1) _ (J.hok.fresh (Nat.le_succ _)) free (Nat.ne_of_lt (Nat.lt_succ_self _))
  have J2 := Inv.made (C := C) J
  have r2 : Vals (V.ref (s1.heap.objs.size + 1) :: vs) (Value.ref (s1.heap.objs.size + 1) :: us) := .cons rfl r
  have many := (r2.length.symm.trans (F.len _ _ _ _ go)).trans rfl
  have bound := hb _ (Value.ref (s1.heap.objs.size + 1) :: us) J2.kIn (by rw [List.append_nil]; exact many)
  rw [List.append_nil] at bound
  have ran := F.run _ X.stack _ _ _ _ _ _ (E σ) (hr.make C us []) (J2.env0.make C us []) bound r2 go
  refine wpAny_call (make_map (f := f) J.kIn M.makes M.init (beq_iff_eq.mp M.fn) (codeAny_mono ran fun z t2 hz => ?_))
  match z, hz with
  | .error _, hz => exact hx σ pins _ _ _ _ J2 hz
  | .ok (.ret _), hz =>
    obtain ⟨_, _, J3, rv, ev, q3⟩ := J2.after hz
    subst ev
    exact ⟨rv, V.ref (s1.heap.objs.size + 1), _, J3, rfl, q3⟩
  | .ok .next, hz => exact hz.elim
  | .ok .brk, hz => exact hz.elim
  | .ok .cont, hz => exact hz.elim
theorem noStop {K : PySem.W.Frag} {P : Value → Option Addr → Hp → Prop} : NoStop K (fun cls d H => PySem.W.subIn K cls (.type "StopIteration") = some false ∧ P cls d H) := fun _ _ _ h => h.1
theorem vals_signs {x : Str} {acc : Array Value} (h : ItemsOf (SignAt x) acc x.cps.size) : Vals (Si2.sgs x) acc.toList := by
  refine vals_of_at ?_ fun j a u ha hu => ?_
  · rw [show acc.toList.length = x.cps.size from (Array.length_toList).trans h.1]
    simp [Si2.sgs]
  · obtain ⟨c, t, hc, rfl⟩ := h.2 j u (by rw [← hu, Array.getElem?_toList])
    unfold Si2.sgs at ha
    rw [List.getElem?_map, Array.getElem?_toList, hc] at ha
    cases ha
    exact ⟨t, rfl⟩
def rListS : List V → Hp → VK → Prop := fun xs H Q => ∃ x : Str, xs = [.str x] ∧ x.length ≤ sizeLine ∧ ∀ q, H q = none → Q (.ref q) (upd H q (.lst (Si2.sgs x)))
theorem call_listS {X : Cx} (hc : X.calm = true) : CallR X (.type "list") rListS := by
  intro pins s σ H xs us Q I r h
  obtain ⟨x, rfl, hl, q⟩ := h
  obtain ⟨u, rfl, ru⟩ := r.one
  obtain ⟨t, rfl⟩ := ru
  refine call_list_str (I.ok.hd hc) x t (fun h' tk acc c' hk e' hi => ?_) hl
  refine ⟨.ref s.heap.objs.size, upd H s.heap.objs.size (.lst (Si2.sgs x)), I.laid hk (Nat.le_refl _) (show ObjOk X.prog X.w _ _ _ (.lst (Si2.sgs x)) from ⟨?_, acc.toList, c', vals_signs hi, ?_⟩), rfl, q _ (I.hok.fresh (Nat.le_refl _))⟩
  · show (Si2.sgs x).length ≤ sizeLine
    unfold Si2.sgs
    rw [List.length_map, Array.length_toList]
    exact hl
  · rw [Array.toArray_toList]; exact e'
end St2

namespace K15
open PySem L2
def top (i : Nat) : Stmt := PySem.Challenge.pw_wheelchorus_k15_whole_single_lays_and_cl.main.body.getD i (.Pass ⟨0, 0, 0, 0⟩)
abbrev s_is_whole : Stmt := top 10
abbrev s_check_offset : Stmt := top 24
abbrev s_init : Stmt := inClass (top 23) 0
abbrev s_iter : Stmt := inClass (top 23) 1
abbrev s_len : Stmt := inClass (top 23) 2
abbrev s_contains : Stmt := inClass (top 23) 3
abbrev s_sub : Stmt := inClass (top 23) 7
abbrev s_lowest : Stmt := inClass (top 23) 9
abbrev s_swithin : Stmt := inClass (top 23) 10
abbrev s_cut : Stmt := inClass (top 23) 11
abbrev s_is_number : Stmt := top 17
abbrev s_check_number : Stmt := top 18
abbrev s_blocks : Stmt := top 19
abbrev s_row_of : Stmt := top 20
abbrev s_length_of : Stmt := top 21
abbrev s_strokes_of : Stmt := top 25
abbrev s_step_back : Stmt := top 27
abbrev s_head_of : Stmt := top 28
abbrev s_train_strokes : Stmt := top 44
abbrev s_linit : Stmt := inClass (top 43) 0
abbrev s_facts : Stmt := inClass (top 43) 2
abbrev s_seq : Stmt := inClass (top 23) 4
abbrev s_leq : Stmt := inClass (top 43) 1
abbrev s_tinit : Stmt := inClass (top 48) 0
abbrev s_has_foreign : Stmt := inClass (top 48) 3
abbrev s_good_rounds : Stmt := inClass (top 48) 2
abbrev s_lays_from : Stmt := inClass (top 48) 1
abbrev s_plain_lays : Stmt := top 47
abbrev s_shy_lays : Stmt := top 46
abbrev s_lays : Stmt := top 45
abbrev s_are_facts_of : Stmt := top 50
abbrev s_clash : Stmt := top 51
abbrev s_lay_of : Stmt := top 49
abbrev s_bag : Stmt := top 53
abbrev s_draw : Stmt := top 55
abbrev s_number : Stmt := top 56
abbrev s_row : Stmt := top 57
abbrev s_says : Stmt := top 54
abbrev s_digits : Stmt := top 58
abbrev s_center : Stmt := top 59
abbrev s_beside : Stmt := top 60
abbrev s_boxes : Stmt := top 61
abbrev s_offsets : Stmt := top 62
abbrev s_bent : Stmt := top 63
abbrev s_tried : Stmt := top 64
abbrev s_listed : Stmt := top 65
abbrev s_known : Stmt := top 66
abbrev s_overlap : Stmt := top 67
abbrev s_wlays : Stmt := top 68
abbrev s_twins : Stmt := top 69
abbrev s_law : Stmt := top 70
abbrev nm_is_whole : List Str := ["thing"]
theorem sc_is_whole : FnScope nm_is_whole ["thing"] (defScope s_is_whole) :=
  ⟨rfl, rfl, rfl, by decide +kernel, rfl, by decide +kernel, by decide +kernel⟩
abbrev nm_check_offset : List Str := ["thing"]
theorem sc_check_offset : FnScope nm_check_offset ["thing"] (defScope s_check_offset) :=
  ⟨rfl, rfl, rfl, by decide +kernel, rfl, by decide +kernel, by decide +kernel⟩
abbrev nm_init : List Str := ["self", "offsets", "offset"]
theorem sc_init : FnScope nm_init ["self", "offsets"] (defScope s_init) :=
  ⟨rfl, rfl, rfl, by decide +kernel, rfl, by decide +kernel, by decide +kernel⟩
abbrev nm_iter : List Str := ["self"]
theorem sc_iter : FnScope nm_iter ["self"] (defScope s_iter) :=
  ⟨rfl, rfl, rfl, by decide +kernel, rfl, by decide +kernel, by decide +kernel⟩
abbrev nm_len : List Str := ["self"]
theorem sc_len : FnScope nm_len ["self"] (defScope s_len) :=
  ⟨rfl, rfl, rfl, by decide +kernel, rfl, by decide +kernel, by decide +kernel⟩
abbrev nm_contains : List Str := ["self", "x"]
theorem sc_contains : FnScope nm_contains ["self", "x"] (defScope s_contains) :=
  ⟨rfl, rfl, rfl, by decide +kernel, rfl, by decide +kernel, by decide +kernel⟩
abbrev nm_sub : List Str := ["self", "other"]
theorem sc_sub : FnScope nm_sub ["self", "other"] (defScope s_sub) :=
  ⟨rfl, rfl, rfl, by decide +kernel, rfl, by decide +kernel, by decide +kernel⟩
abbrev nm_lowest : List Str := ["self"]
theorem sc_lowest : FnScope nm_lowest ["self"] (defScope s_lowest) :=
  ⟨rfl, rfl, rfl, by decide +kernel, rfl, by decide +kernel, by decide +kernel⟩
abbrev nm_swithin : List Str := ["self", "other"]
theorem sc_swithin : FnScope nm_swithin ["self", "other"] (defScope s_swithin) :=
  ⟨rfl, rfl, rfl, by decide +kernel, rfl, by decide +kernel, by decide +kernel⟩
abbrev nm_cut : List Str := ["self", "end", "offset"]
theorem sc_cut : FnScope nm_cut ["self", "end"] (defScope s_cut) :=
  ⟨rfl, rfl, rfl, by decide +kernel, rfl, by decide +kernel, by decide +kernel⟩
abbrev nm_is_number : List Str := ["thing", "letter"]
theorem sc_is_number : FnScope nm_is_number ["thing"] (defScope s_is_number) :=
  ⟨rfl, rfl, rfl, by decide +kernel, rfl, by decide +kernel, by decide +kernel⟩
abbrev nm_check_number : List Str := ["thing"]
theorem sc_check_number : FnScope nm_check_number ["thing"] (defScope s_check_number) :=
  ⟨rfl, rfl, rfl, by decide +kernel, rfl, by decide +kernel, by decide +kernel⟩
abbrev nm_blocks : List Str := ["number", "letter"]
theorem sc_blocks : FnScope nm_blocks ["number"] (defScope s_blocks) :=
  ⟨rfl, rfl, rfl, by decide +kernel, rfl, by decide +kernel, by decide +kernel⟩
abbrev nm_row_of : List Str := ["number", "row", "strokes"]
theorem sc_row_of : FnScope nm_row_of ["number"] (defScope s_row_of) :=
  ⟨rfl, rfl, rfl, by decide +kernel, rfl, by decide +kernel, by decide +kernel⟩
abbrev nm_length_of : List Str := ["number", "sizes"]
theorem sc_length_of : FnScope nm_length_of ["number"] (defScope s_length_of) :=
  ⟨rfl, rfl, rfl, by decide +kernel, rfl, by decide +kernel, by decide +kernel⟩
abbrev nm_strokes_of : List Str := ["number", "offset", "sign"]
theorem sc_strokes_of : FnScope nm_strokes_of ["number"] (defScope s_strokes_of) :=
  ⟨rfl, rfl, rfl, by decide +kernel, rfl, by decide +kernel, by decide +kernel⟩
abbrev nm_step_back : List Str := ["number", "pattern", "length"]
theorem sc_step_back : FnScope nm_step_back ["number", "pattern"] (defScope s_step_back) :=
  ⟨rfl, rfl, rfl, by decide +kernel, rfl, by decide +kernel, by decide +kernel⟩
abbrev nm_head_of : List Str := ["number", "pattern", "strokes", "end", "head"]
theorem sc_head_of : FnScope nm_head_of ["number", "pattern"] (defScope s_head_of) :=
  ⟨rfl, rfl, rfl, by decide +kernel, rfl, by decide +kernel, by decide +kernel⟩
abbrev nm_train_strokes : List Str := ["number", "at", "rounds", "span", "length", "strokes", "offsets", "index", "offset"]
theorem sc_train_strokes : FnScope nm_train_strokes ["number", "at", "rounds", "span"] (defScope s_train_strokes) :=
  ⟨rfl, rfl, rfl, by decide +kernel, rfl, by decide +kernel, by decide +kernel⟩
abbrev nm_linit : List Str := ["self", "number", "kind", "at", "rounds", "strokes", "end"]
theorem sc_linit : FnScope nm_linit ["self", "number", "kind", "at", "rounds", "strokes", "end"] (defScope s_linit) :=
  ⟨rfl, rfl, rfl, by decide +kernel, rfl, by decide +kernel, by decide +kernel⟩
abbrev nm_facts : List Str := ["self"]
theorem sc_facts : FnScope nm_facts ["self"] (defScope s_facts) :=
  ⟨rfl, rfl, rfl, by decide +kernel, rfl, by decide +kernel, by decide +kernel⟩
abbrev nm_seq : List Str := ["self", "other"]
theorem sc_seq : FnScope nm_seq ["self", "other"] (defScope s_seq) :=
  ⟨rfl, rfl, rfl, by decide +kernel, rfl, by decide +kernel, by decide +kernel⟩
abbrev nm_leq : List Str := ["self", "other"]
theorem sc_leq : FnScope nm_leq ["self", "other"] (defScope s_leq) :=
  ⟨rfl, rfl, rfl, by decide +kernel, rfl, by decide +kernel, by decide +kernel⟩
abbrev nm_tinit : List Str := ["self", "pattern", "span", "number", "offset"]
theorem sc_tinit : FnScope nm_tinit ["self", "pattern", "span", "number"] (defScope s_tinit) :=
  ⟨rfl, rfl, rfl, by decide +kernel, rfl, by decide +kernel, by decide +kernel⟩
abbrev nm_has_foreign : List Str := ["self", "at", "offset"]
theorem sc_has_foreign : FnScope nm_has_foreign ["self", "at"] (defScope s_has_foreign) :=
  ⟨rfl, rfl, rfl, by decide +kernel, rfl, by decide +kernel, by decide +kernel⟩
abbrev nm_good_rounds : List Str := ["self", "at", "most", "index"]
theorem sc_good_rounds : FnScope nm_good_rounds ["self", "at", "most"] (defScope s_good_rounds) :=
  ⟨rfl, rfl, rfl, by decide +kernel, rfl, by decide +kernel, by decide +kernel⟩
abbrev nm_lays_from : List Str := ["self", "kind", "at", "least", "most", "found", "rounds", "strokes"]
theorem sc_lays_from : FnScope nm_lays_from ["self", "kind", "at", "least", "most"] (defScope s_lays_from) :=
  ⟨rfl, rfl, rfl, by decide +kernel, rfl, by decide +kernel, by decide +kernel⟩
abbrev nm_plain_lays : List Str := ["pattern", "span", "number", "rounds", "case", "train", "found", "ticks", "at"]
theorem sc_plain_lays : FnScope nm_plain_lays ["pattern", "span", "number", "rounds", "case"] (defScope s_plain_lays) :=
  ⟨rfl, rfl, rfl, by decide +kernel, rfl, by decide +kernel, by decide +kernel⟩
abbrev nm_shy_lays : List Str := ["pattern", "span", "number", "case", "head"]
theorem sc_shy_lays : FnScope nm_shy_lays ["pattern", "span", "number", "case"] (defScope s_shy_lays) :=
  ⟨rfl, rfl, rfl, by decide +kernel, rfl, by decide +kernel, by decide +kernel⟩
abbrev nm_lays : List Str := ["pattern", "span", "boxes", "rounds", "case", "number", "sort", "found"]
theorem sc_lays : GScope nm_lays ["pattern", "span", "boxes", "rounds", "case"] (defScope s_lays) :=
  ⟨rfl, rfl, rfl, by decide +kernel, rfl, by decide +kernel, by decide +kernel⟩
abbrev nm_are_facts_of : List Str := ["thing", "lay", "part"]
theorem sc_are_facts_of : FnScope nm_are_facts_of ["thing", "lay"] (defScope s_are_facts_of) :=
  ⟨rfl, rfl, rfl, by decide +kernel, rfl, by decide +kernel, by decide +kernel⟩
abbrev nm_clash : List Str := ["one", "other"]
theorem sc_clash : FnScope nm_clash ["one", "other"] (defScope s_clash) :=
  ⟨rfl, rfl, rfl, by decide +kernel, rfl, by decide +kernel, by decide +kernel⟩
abbrev nm_lay_of : List Str := ["facts", "pattern", "span", "boxes", "rounds", "case", "lay"]
theorem sc_lay_of : FnScope nm_lay_of ["facts", "pattern", "span", "boxes", "rounds", "case"] (defScope s_lay_of) :=
  ⟨rfl, rfl, rfl, by decide +kernel, rfl, by decide +kernel, by decide +kernel⟩
abbrev nm_bag : List Str := ["_law_script", "_law_cells", "_law_cell"]
theorem sc_bag : FnScope nm_bag ["_law_script"] (defScope s_bag) :=
  ⟨rfl, rfl, rfl, by decide +kernel, rfl, by decide +kernel, by decide +kernel⟩
abbrev nm_draw : List Str := ["_law_bag_here", "_law_limit", "_law_digit"]
theorem sc_draw : FnScope nm_draw ["_law_bag_here", "_law_limit"] (defScope s_draw) :=
  ⟨rfl, rfl, rfl, by decide +kernel, rfl, by decide +kernel, by decide +kernel⟩
abbrev nm_number : List Str := ["_law_bag_here", "_law_many", "_law_way", "_law_top", "_law_word", "_law_left", "_law_k", "_law_digit"]
theorem sc_number : FnScope nm_number ["_law_bag_here"] (defScope s_number) :=
  ⟨rfl, rfl, rfl, by decide +kernel, rfl, by decide +kernel, by decide +kernel⟩
abbrev nm_row : List Str := ["_law_number_here", "_law_row_here", "_law_sign"]
theorem sc_row : FnScope nm_row ["_law_number_here"] (defScope s_row) :=
  ⟨rfl, rfl, rfl, by decide +kernel, rfl, by decide +kernel, by decide +kernel⟩
abbrev nm_says : List Str := ["_law_told", "_law_due"]
theorem sc_says : FnScope nm_says ["_law_told", "_law_due"] (defScope s_says) :=
  ⟨rfl, rfl, rfl, by decide +kernel, rfl, by decide +kernel, by decide +kernel⟩
abbrev nm_digits : List Str := ["_law_bag_here", "_law_many", "_law_top", "_law_k"]
theorem sc_digits : FnScope nm_digits ["_law_bag_here", "_law_many", "_law_top"] (defScope s_digits) :=
  ⟨rfl, rfl, rfl, by decide +kernel, rfl, by decide +kernel, by decide +kernel⟩
abbrev nm_center : List Str := ["_law_bag_here"]
theorem sc_center : FnScope nm_center ["_law_bag_here"] (defScope s_center) :=
  ⟨rfl, rfl, rfl, by decide +kernel, rfl, by decide +kernel, by decide +kernel⟩
abbrev nm_beside : List Str := ["_law_bag_here", "_law_center_here", "_law_way", "_law_at", "_law_word", "_law_sign"]
theorem sc_beside : FnScope nm_beside ["_law_bag_here", "_law_center_here"] (defScope s_beside) :=
  ⟨rfl, rfl, rfl, by decide +kernel, rfl, by decide +kernel, by decide +kernel⟩
abbrev nm_boxes : List Str := ["_law_bag_here", "_law_center_here", "_law_many", "_law_boxes_here", "_law_k", "_law_number_here", "_law_box"]
theorem sc_boxes : FnScope nm_boxes ["_law_bag_here", "_law_center_here", "_law_many"] (defScope s_boxes) :=
  ⟨rfl, rfl, rfl, by decide +kernel, rfl, by decide +kernel, by decide +kernel⟩
abbrev nm_offsets : List Str := ["_law_bag_here", "_law_center_here", "_law_row_here", "_law_offsets_here", "_law_at", "_law_way", "_law_k"]
theorem sc_offsets : FnScope nm_offsets ["_law_bag_here", "_law_center_here"] (defScope s_offsets) :=
  ⟨rfl, rfl, rfl, by decide +kernel, rfl, by decide +kernel, by decide +kernel⟩
abbrev nm_bent : List Str := ["_law_bag_here", "_law_facts", "_law_way", "_law_number_here", "_law_kind", "_law_at", "_law_many"]
theorem sc_bent : FnScope nm_bent ["_law_bag_here", "_law_facts"] (defScope s_bent) :=
  ⟨rfl, rfl, rfl, by decide +kernel, rfl, by decide +kernel, by decide +kernel⟩
abbrev nm_tried : List Str := ["_law_facts", "_law_strokes", "_law_span", "_law_boxes_here", "_law_most", "_law_case", "_law_lay", "e"]
theorem sc_tried : FnScope nm_tried ["_law_facts", "_law_strokes", "_law_span", "_law_boxes_here", "_law_most", "_law_case"] (defScope s_tried) :=
  ⟨rfl, rfl, rfl, by decide +kernel, rfl, by decide +kernel, by decide +kernel⟩
abbrev nm_listed : List Str := ["_law_strokes", "_law_span", "_law_boxes_here", "_law_most", "_law_case", "_law_told", "e"]
theorem sc_listed : FnScope nm_listed ["_law_strokes", "_law_span", "_law_boxes_here", "_law_most", "_law_case"] (defScope s_listed) :=
  ⟨rfl, rfl, rfl, by decide +kernel, rfl, by decide +kernel, by decide +kernel⟩
abbrev nm_known : List Str := ["_law_facts", "_law_told", "_law_lay"]
theorem sc_known : FnScope nm_known ["_law_facts", "_law_told"] (defScope s_known) :=
  ⟨rfl, rfl, rfl, by decide +kernel, rfl, by decide +kernel, by decide +kernel⟩
abbrev nm_overlap : List Str := ["_law_one", "_law_other"]
theorem sc_overlap : FnScope nm_overlap ["_law_one", "_law_other"] (defScope s_overlap) :=
  ⟨rfl, rfl, rfl, by decide +kernel, rfl, by decide +kernel, by decide +kernel⟩
abbrev nm_wlays : List Str := ["_law_told", "_law_strokes", "_law_span", "_law_boxes_here", "_law_most", "_law_case", "_law_k", "_law_lay", "_law_back", "_law_at"]
theorem sc_wlays : FnScope nm_wlays ["_law_told", "_law_strokes", "_law_span", "_law_boxes_here", "_law_most", "_law_case"] (defScope s_wlays) :=
  ⟨rfl, rfl, rfl, by decide +kernel, rfl, by decide +kernel, by decide +kernel⟩
abbrev nm_twins : List Str := ["_law_told", "_law_other", "_law_lay", "_law_two", "_law_same"]
theorem sc_twins : FnScope nm_twins ["_law_told", "_law_other"] (defScope s_twins) :=
  ⟨rfl, rfl, rfl, by decide +kernel, rfl, by decide +kernel, by decide +kernel⟩
abbrev nm_law : List Str := ["_law_script", "_law_bag_here", "_law_center_here", "_law_world", "_law_strokes", "_law_span", "_law_boxes_here", "_law_most", "_law_short", "_law_case", "_law_told", "_law_k", "_law_facts", "_law_due", "_law_back", "_law_odd"]
theorem sc_law : FnScope nm_law ["_law_script"] (defScope s_law) :=
  ⟨rfl, rfl, rfl, by decide +kernel, rfl, by decide +kernel, by decide +kernel⟩
set_option genInjectivity false in
set_option genSizeOf false in
set_option genSizeOfSpec false in
structure Txt (K : PySem.W.Frag) (mg : Str → Option Value) where
  C : Addr
  W : Addr
  L : Addr
  TC : Addr
  tE : Addr
  isi : SlX.SIsi K C
  kS : PySem.W.kitOne K (.ref C) (.ref C) = some true
  gC : mg "Strokes" = some (.ref C)
  clC : Cls K C
  nO : NoAttr K C "offsets"
  CN : Addr
  fN : Addr
  low : PySem.LowX.LowTxt K mg CN fN
  CY : Addr
  fY : Addr
  lowY : PySem.LowY.LowTxt K mg CY fY
  xcY : ExcC K CY
  cliY : (PySem.W.clsIn K CY).isSome = true
  nsY : PySem.W.subIn K (.ref CY) (.type "StopIteration") = some false
  CZ : Addr
  fZ : Addr
  lowZ : PySem.LowZ.LowTxt K mg CZ fZ
  xcZ : ExcC K CZ
  cliZ : (PySem.W.clsIn K CZ).isSome = true
  Wc : Addr
  gWc : mg "WheelError" = some (.ref Wc)
  kYW : PySem.W.kitOne K (.ref CY) (.ref Wc) = some true
  kZW : PySem.W.kitOne K (.ref CZ) (.ref Wc) = some true
  kZN : PySem.W.kitOne K (.ref CZ) (.ref CN) = some false
  eYZ : PySem.W.exmOne K (.ref CY) (.ref CZ) = some false
  kSL : PySem.W.kitOne K (.ref L) (.ref L) = some true
  isiL : SlX.SIsi K L
  kTL : PySem.W.kitOne K (.type "tuple") (.ref L) = some false
  sfL : PySem.W.notFirst K L (.ref L) = true
  sfTL : PySem.W.notFirst K L (.type "tuple") = true
  sfC : PySem.W.notFirst K C (.ref C) = true
  sf : PySem.W.selfFirst K C = true
  gL : mg "Lay" = some (.ref L)
  clL : Cls K L
  nN : NoAttr K L "number"
  nK : NoAttr K L "kind"
  nA : NoAttr K L "at"
  nR : NoAttr K L "rounds"
  nSt : NoAttr K L "strokes"
  nE : NoAttr K L "end"
  gTC : mg "Train" = some (.ref TC)
  clTC : Cls K TC
  nSp : NoAttr K TC "span"
  nNu : NoAttr K TC "number"
  nLe : NoAttr K TC "length"
  nOf : NoAttr K TC "offsets"
  nKn : NoAttr K TC "known"
  gW : mg "Town" = some (.ref W)
  clW : Cls K W
  mc : Value
  rd : ClX.CRead K W mc
  uP : Value
  vP : ClX.CVal K W mc "PLAIN" (.str "plain") uP
  eT : ∃ o n, K.lookup tE = some o ∧ o.cls = .type "tuple" ∧ o.data = .seq #[] n
  a_is_whole : Addr
  d_is_whole : FuncData
  F_is_whole : Fun K "is_whole" "is_whole" s_is_whole a_is_whole d_is_whole
  b_is_whole : Binds K d_is_whole ["thing"] []
  g_is_whole : mg "is_whole" = some (.ref a_is_whole)
  a_check_offset : Addr
  d_check_offset : FuncData
  F_check_offset : Fun K "check_offset" "check_offset" s_check_offset a_check_offset d_check_offset
  b_check_offset : Binds K d_check_offset ["thing"] []
  g_check_offset : mg "check_offset" = some (.ref a_check_offset)
  a_init : Addr
  d_init : FuncData
  F_init : FunD K "__init__" "Strokes.__init__" (defArgs s_init) (defBody s_init) (defScope s_init) [V.ref tE] [] a_init d_init
  b_init : Binds K d_init ["self", "offsets"] []
  mk_init : Mk K C a_init
  a_iter : Addr
  d_iter : FuncData
  F_iter : Fun K "__iter__" "Strokes.__iter__" s_iter a_iter d_iter
  b_iter : Binds K d_iter ["self"] []
  m_iter : Meth K C "__iter__" a_iter
  a_len : Addr
  d_len : FuncData
  F_len : Fun K "__len__" "Strokes.__len__" s_len a_len d_len
  b_len : Binds K d_len ["self"] []
  m_len : Meth K C "__len__" a_len
  a_contains : Addr
  d_contains : FuncData
  F_contains : Fun K "__contains__" "Strokes.__contains__" s_contains a_contains d_contains
  b_contains : Binds K d_contains ["self", "x"] []
  m_contains : Meth K C "__contains__" a_contains
  a_sub : Addr
  d_sub : FuncData
  F_sub : Fun K "__sub__" "Strokes.__sub__" s_sub a_sub d_sub
  b_sub : Binds K d_sub ["self", "other"] []
  m_sub : Meth K C "__sub__" a_sub
  a_lowest : Addr
  d_lowest : FuncData
  F_lowest : Fun K "lowest" "Strokes.lowest" s_lowest a_lowest d_lowest
  b_lowest : Binds K d_lowest ["self"] []
  a_swithin : Addr
  d_swithin : FuncData
  F_swithin : Fun K "within" "Strokes.within" s_swithin a_swithin d_swithin
  b_swithin : Binds K d_swithin ["self", "other"] []
  m_swithin : Meth K C "within" a_swithin
  a_cut : Addr
  d_cut : FuncData
  F_cut : Fun K "cut" "Strokes.cut" s_cut a_cut d_cut
  b_cut : Binds K d_cut ["self", "end"] []
  m_cut : Meth K C "cut" a_cut
  a_is_number : Addr
  d_is_number : FuncData
  F_is_number : Fun K "is_number" "is_number" s_is_number a_is_number d_is_number
  b_is_number : Binds K d_is_number ["thing"] []
  g_is_number : mg "is_number" = some (.ref a_is_number)
  a_check_number : Addr
  d_check_number : FuncData
  F_check_number : Fun K "check_number" "check_number" s_check_number a_check_number d_check_number
  b_check_number : Binds K d_check_number ["thing"] []
  g_check_number : mg "check_number" = some (.ref a_check_number)
  a_blocks : Addr
  d_blocks : FuncData
  F_blocks : Fun K "blocks" "blocks" s_blocks a_blocks d_blocks
  b_blocks : Binds K d_blocks ["number"] []
  g_blocks : mg "blocks" = some (.ref a_blocks)
  a_row_of : Addr
  d_row_of : FuncData
  F_row_of : Fun K "row_of" "row_of" s_row_of a_row_of d_row_of
  b_row_of : Binds K d_row_of ["number"] []
  g_row_of : mg "row_of" = some (.ref a_row_of)
  a_length_of : Addr
  d_length_of : FuncData
  F_length_of : Fun K "length_of" "length_of" s_length_of a_length_of d_length_of
  b_length_of : Binds K d_length_of ["number"] []
  g_length_of : mg "length_of" = some (.ref a_length_of)
  a_strokes_of : Addr
  d_strokes_of : FuncData
  F_strokes_of : Fun K "strokes_of" "strokes_of" s_strokes_of a_strokes_of d_strokes_of
  b_strokes_of : Binds K d_strokes_of ["number"] []
  g_strokes_of : mg "strokes_of" = some (.ref a_strokes_of)
  a_step_back : Addr
  d_step_back : FuncData
  F_step_back : Fun K "step_back" "step_back" s_step_back a_step_back d_step_back
  b_step_back : Binds K d_step_back ["number", "pattern"] []
  g_step_back : mg "step_back" = some (.ref a_step_back)
  a_head_of : Addr
  d_head_of : FuncData
  F_head_of : Fun K "head_of" "head_of" s_head_of a_head_of d_head_of
  b_head_of : Binds K d_head_of ["number", "pattern"] []
  g_head_of : mg "head_of" = some (.ref a_head_of)
  a_train_strokes : Addr
  d_train_strokes : FuncData
  F_train_strokes : Fun K "train_strokes" "train_strokes" s_train_strokes a_train_strokes d_train_strokes
  b_train_strokes : Binds K d_train_strokes ["number", "at", "rounds", "span"] []
  g_train_strokes : mg "train_strokes" = some (.ref a_train_strokes)
  a_linit : Addr
  d_linit : FuncData
  F_linit : Fun K "__init__" "Lay.__init__" s_linit a_linit d_linit
  b_linit : Binds K d_linit ["self", "number", "kind", "at", "rounds", "strokes", "end"] []
  mk_linit : Mk K L a_linit
  a_facts : Addr
  d_facts : FuncData
  F_facts : Fun K "facts" "Lay.facts" s_facts a_facts d_facts
  b_facts : Binds K d_facts ["self"] []
  m_facts : Meth K L "facts" a_facts
  a_seq : Addr
  d_seq : FuncData
  F_seq : Fun K "__eq__" "Strokes.__eq__" s_seq a_seq d_seq
  b_seq : Binds K d_seq ["self", "other"] []
  m_seq : Meth K C "__eq__" a_seq
  a_leq : Addr
  d_leq : FuncData
  F_leq : Fun K "__eq__" "Lay.__eq__" s_leq a_leq d_leq
  b_leq : Binds K d_leq ["self", "other"] []
  m_leq : Meth K L "__eq__" a_leq
  a_tinit : Addr
  d_tinit : FuncData
  F_tinit : Fun K "__init__" "Train.__init__" s_tinit a_tinit d_tinit
  b_tinit : Binds K d_tinit ["self", "pattern", "span", "number"] []
  mk_tinit : Mk K TC a_tinit
  a_has_foreign : Addr
  d_has_foreign : FuncData
  F_has_foreign : Fun K "has_foreign" "Train.has_foreign" s_has_foreign a_has_foreign d_has_foreign
  b_has_foreign : Binds K d_has_foreign ["self", "at"] []
  m_has_foreign : Meth K TC "has_foreign" a_has_foreign
  a_good_rounds : Addr
  d_good_rounds : FuncData
  F_good_rounds : Fun K "good_rounds" "Train.good_rounds" s_good_rounds a_good_rounds d_good_rounds
  b_good_rounds : Binds K d_good_rounds ["self", "at", "most"] []
  m_good_rounds : Meth K TC "good_rounds" a_good_rounds
  a_lays_from : Addr
  d_lays_from : FuncData
  F_lays_from : Fun K "lays_from" "Train.lays_from" s_lays_from a_lays_from d_lays_from
  b_lays_from : Binds K d_lays_from ["self", "kind", "at", "least", "most"] []
  m_lays_from : Meth K TC "lays_from" a_lays_from
  a_plain_lays : Addr
  d_plain_lays : FuncData
  F_plain_lays : Fun K "plain_lays" "plain_lays" s_plain_lays a_plain_lays d_plain_lays
  b_plain_lays : Binds K d_plain_lays ["pattern", "span", "number", "rounds", "case"] []
  g_plain_lays : mg "plain_lays" = some (.ref a_plain_lays)
  a_shy_lays : Addr
  d_shy_lays : FuncData
  F_shy_lays : Fun K "shy_lays" "shy_lays" s_shy_lays a_shy_lays d_shy_lays
  b_shy_lays : Binds K d_shy_lays ["pattern", "span", "number", "case"] []
  g_shy_lays : mg "shy_lays" = some (.ref a_shy_lays)
  a_lays : Addr
  d_lays : FuncData
  F_lays : Fun K "lays" "lays" s_lays a_lays d_lays
  b_lays : Binds K d_lays ["pattern", "span", "boxes", "rounds", "case"] []
  g_lays : mg "lays" = some (.ref a_lays)
  a_are_facts_of : Addr
  d_are_facts_of : FuncData
  F_are_facts_of : Fun K "are_facts_of" "are_facts_of" s_are_facts_of a_are_facts_of d_are_facts_of
  b_are_facts_of : Binds K d_are_facts_of ["thing", "lay"] []
  g_are_facts_of : mg "are_facts_of" = some (.ref a_are_facts_of)
  a_clash : Addr
  d_clash : FuncData
  F_clash : Fun K "clash" "clash" s_clash a_clash d_clash
  b_clash : Binds K d_clash ["one", "other"] []
  g_clash : mg "clash" = some (.ref a_clash)
  a_lay_of : Addr
  d_lay_of : FuncData
  F_lay_of : Fun K "lay_of" "lay_of" s_lay_of a_lay_of d_lay_of
  b_lay_of : Binds K d_lay_of ["facts", "pattern", "span", "boxes", "rounds", "case"] []
  g_lay_of : mg "lay_of" = some (.ref a_lay_of)
  a_bag : Addr
  d_bag : FuncData
  F_bag : Fun K "_law_bag" "_law_bag" s_bag a_bag d_bag
  b_bag : Binds K d_bag ["_law_script"] []
  g_bag : mg "_law_bag" = some (.ref a_bag)
  a_draw : Addr
  d_draw : FuncData
  F_draw : Fun K "_law_draw" "_law_draw" s_draw a_draw d_draw
  b_draw : Binds K d_draw ["_law_bag_here", "_law_limit"] []
  g_draw : mg "_law_draw" = some (.ref a_draw)
  a_number : Addr
  d_number : FuncData
  F_number : Fun K "_law_number" "_law_number" s_number a_number d_number
  b_number : Binds K d_number ["_law_bag_here"] []
  g_number : mg "_law_number" = some (.ref a_number)
  a_row : Addr
  d_row : FuncData
  F_row : Fun K "_law_row" "_law_row" s_row a_row d_row
  b_row : Binds K d_row ["_law_number_here"] []
  g_row : mg "_law_row" = some (.ref a_row)
  a_says : Addr
  d_says : FuncData
  F_says : Fun K "_law_says" "_law_says" s_says a_says d_says
  b_says : Binds K d_says ["_law_told", "_law_due"] []
  g_says : mg "_law_says" = some (.ref a_says)
  a_digits : Addr
  d_digits : FuncData
  F_digits : Fun K "_law_digits" "_law_digits" s_digits a_digits d_digits
  b_digits : Binds K d_digits ["_law_bag_here", "_law_many", "_law_top"] []
  g_digits : mg "_law_digits" = some (.ref a_digits)
  a_center : Addr
  d_center : FuncData
  F_center : Fun K "_law_center" "_law_center" s_center a_center d_center
  b_center : Binds K d_center ["_law_bag_here"] []
  g_center : mg "_law_center" = some (.ref a_center)
  a_beside : Addr
  d_beside : FuncData
  F_beside : Fun K "_law_beside" "_law_beside" s_beside a_beside d_beside
  b_beside : Binds K d_beside ["_law_bag_here", "_law_center_here"] []
  g_beside : mg "_law_beside" = some (.ref a_beside)
  a_boxes : Addr
  d_boxes : FuncData
  F_boxes : Fun K "_law_boxes" "_law_boxes" s_boxes a_boxes d_boxes
  b_boxes : Binds K d_boxes ["_law_bag_here", "_law_center_here", "_law_many"] []
  g_boxes : mg "_law_boxes" = some (.ref a_boxes)
  a_offsets : Addr
  d_offsets : FuncData
  F_offsets : Fun K "_law_offsets" "_law_offsets" s_offsets a_offsets d_offsets
  b_offsets : Binds K d_offsets ["_law_bag_here", "_law_center_here"] []
  g_offsets : mg "_law_offsets" = some (.ref a_offsets)
  a_bent : Addr
  d_bent : FuncData
  F_bent : Fun K "_law_bent" "_law_bent" s_bent a_bent d_bent
  b_bent : Binds K d_bent ["_law_bag_here", "_law_facts"] []
  g_bent : mg "_law_bent" = some (.ref a_bent)
  a_tried : Addr
  d_tried : FuncData
  F_tried : Fun K "_law_tried" "_law_tried" s_tried a_tried d_tried
  b_tried : Binds K d_tried ["_law_facts", "_law_strokes", "_law_span", "_law_boxes_here", "_law_most", "_law_case"] []
  g_tried : mg "_law_tried" = some (.ref a_tried)
  a_listed : Addr
  d_listed : FuncData
  F_listed : Fun K "_law_listed" "_law_listed" s_listed a_listed d_listed
  b_listed : Binds K d_listed ["_law_strokes", "_law_span", "_law_boxes_here", "_law_most", "_law_case"] []
  g_listed : mg "_law_listed" = some (.ref a_listed)
  a_known : Addr
  d_known : FuncData
  F_known : Fun K "_law_known" "_law_known" s_known a_known d_known
  b_known : Binds K d_known ["_law_facts", "_law_told"] []
  g_known : mg "_law_known" = some (.ref a_known)
  a_overlap : Addr
  d_overlap : FuncData
  F_overlap : Fun K "_law_overlap" "_law_overlap" s_overlap a_overlap d_overlap
  b_overlap : Binds K d_overlap ["_law_one", "_law_other"] []
  g_overlap : mg "_law_overlap" = some (.ref a_overlap)
  a_wlays : Addr
  d_wlays : FuncData
  F_wlays : Fun K "_law_lays" "_law_lays" s_wlays a_wlays d_wlays
  b_wlays : Binds K d_wlays ["_law_told", "_law_strokes", "_law_span", "_law_boxes_here", "_law_most", "_law_case"] []
  g_wlays : mg "_law_lays" = some (.ref a_wlays)
  a_twins : Addr
  d_twins : FuncData
  F_twins : Fun K "_law_twins" "_law_twins" s_twins a_twins d_twins
  b_twins : Binds K d_twins ["_law_told", "_law_other"] []
  g_twins : mg "_law_twins" = some (.ref a_twins)
  a_law : Addr
  d_law : FuncData
  F_law : Fun K "law" "law" s_law a_law d_law
  b_law : Binds K d_law ["_law_script"] []
  g_law : mg "law" = some (.ref a_law)
  t_DIGITS : Tok
  c_DIGITS : mg "DIGITS" = some (.str "123456789" t_DIGITS)
  t_MOST_DIGITS : Tok
  c_MOST_DIGITS : mg "MOST_DIGITS" = some (.int 4 t_MOST_DIGITS)
  t_GREATEST_SUM : Tok
  c_GREATEST_SUM : mg "GREATEST_SUM" = some (.int 24 t_GREATEST_SUM)
  t_MOST_LOOPS : Tok
  c_MOST_LOOPS : mg "MOST_LOOPS" = some (.int 3 t_MOST_LOOPS)
  t_MOST_BOXES : Tok
  c_MOST_BOXES : mg "MOST_BOXES" = some (.int 10 t_MOST_BOXES)
  t_MOST_ROUNDS : Tok
  c_MOST_ROUNDS : mg "MOST_ROUNDS" = some (.int 8 t_MOST_ROUNDS)
  t_QUIET : Tok
  c_QUIET : mg "QUIET" = some (.str "quiet" t_QUIET)
  t_TRAIN : Tok
  c_TRAIN : mg "TRAIN" = some (.str "train" t_TRAIN)
  t_KEY : Tok
  c_KEY : mg "KEY" = some (.str "key" t_KEY)
  z_all : mg "all" = none
  z_any : mg "any" = none
  z_bool : mg "bool" = none
  z_enumerate : mg "enumerate" = none
  z_int : mg "int" = none
  z_isinstance : mg "isinstance" = none
  z_iter : mg "iter" = none
  z_len : mg "len" = none
  z_list : mg "list" = none
  z_max : mg "max" = none
  z_min : mg "min" = none
  z_range : mg "range" = none
  z_repr : mg "repr" = none
  z_set : mg "set" = none
  z_sorted : mg "sorted" = none
  z_str : mg "str" = none
  z_sum : mg "sum" = none
  z_tuple : mg "tuple" = none
  aLen : PySem.W.findIn K (.ref C) "__len__" = some (some (.ref a_len))
  iLen : PySem.W.isFn K (.ref a_len) = true
  aIt : PySem.W.findIn K (.ref C) "__iter__" = some (some (.ref a_iter))
  iIt : PySem.W.isFn K (.ref a_iter) = true
  ds0 : List Value
  r_init : Vals [V.ref tE] ds0
  b0_init : Binds K d_init ["self", "offsets"] ds0
  aSeq : PySem.W.findIn K (.ref C) "__eq__" = some (some (.ref a_seq))
  iSeq : PySem.W.isFn K (.ref a_seq) = true
  aLeq : PySem.W.findIn K (.ref L) "__eq__" = some (some (.ref a_leq))
  iLeq : PySem.W.isFn K (.ref a_leq) = true
  neS : On.NeOk K C a_seq
  neL : On.NeOk K L a_leq
  aIn : PySem.W.findIn K (.ref C) "__contains__" = some (some (.ref a_contains))
  iIn : PySem.W.isFn K (.ref a_contains) = true
  h_sub : PySem.W.findIn K (.ref C) (PySem.dunder Operator.Sub.info.2) = some (some (.ref a_sub))
  i_sub : PySem.W.isFn K (.ref a_sub) = true
  pL : Addr
  pr : PropOf K C "lowest" pL a_lowest
end K15

namespace K15
open PySem L2 Wm TL Dv
/-- the offsets of strokes: rising, none below 0 -/
structure Off (ns : List Int) : Prop where
  up : ns.Pairwise (· < ·)
  lo : ∀ n ∈ ns, 0 ≤ n
  few : ns.length < 1000
def offD (ns : List Int) : PyData := .tuple (ns.map PyData.int)
/-- an instance of Strokes that holds ns -/
def StrAt (K : PySem.W.Frag) (C : Addr) (H : Hp) (p : Addr) (ns : List Int) : Prop :=
  ∃ dx fs q, H p = some (.ins C dx fs) ∧ fs.lookup ("offsets" : Str) = some (.ref q) ∧ (∀ m : Str, m ≠ "offsets" → fs.lookup m = none) ∧ SqT K H q (ns.map V.int)
/-- the members of a list, each once, rising -/
def IsSort (xs ns : List Int) : Prop := ns.Pairwise (· < ·) ∧ ∀ k, k ∈ ns ↔ k ∈ xs
theorem up_eq : ∀ {a b : List Int}, a.Pairwise (· < ·) → b.Pairwise (· < ·) → (∀ k, k ∈ a ↔ k ∈ b) → a = b
  | [], [], _, _, _ => rfl
  | [], y :: b, _, _, h => absurd ((h y).mpr List.mem_cons_self) (by simp)
  | x :: a, [], _, _, h => absurd ((h x).mp List.mem_cons_self) (by simp)
  | x :: a, y :: b, ha, hb, h => by
    rw [List.pairwise_cons] at ha hb
    have e : x = y := by
      rcases List.mem_cons.mp ((h x).mp List.mem_cons_self) with z | z
      · exact z
      · rcases List.mem_cons.mp ((h y).mpr List.mem_cons_self) with v | v
        · exact v.symm
        · have := hb.1 x z
          have := ha.1 y v
          omega
    subst e
    congr 1
    refine up_eq ha.2 hb.2 fun k => ⟨fun m => ?_, fun m => ?_⟩
    · rcases List.mem_cons.mp ((h k).mp (List.mem_cons_of_mem _ m)) with z | z
      · have := ha.1 k m
        omega
      · exact z
    · rcases List.mem_cons.mp ((h k).mpr (List.mem_cons_of_mem _ m)) with z | z
      · have := hb.1 k m
        omega
      · exact z
/-- what may be asked whether it is a whole number, and which -/
inductive Thing (K : PySem.W.Frag) (H : Hp) : V → Option Int → Prop
  | int (i : Int) : Thing K H (.int i) (some i)
  | bl (b : Bool) : Thing K H (.bl b) none
  | str (s : Str) : Thing K H (.str s) none
  | non : Thing K H .non none
  | seq (t : Bool) {p : Addr} {xs : List V} (h : Kd.Is K t H p xs) : Thing K H (.ref p) none
/-- an error of the class at C is on its way, with x -/
def Er (C : Addr) (E : XK) (H : Hp) (x : V) : Prop := ∀ H' d, Same H H' → H' d = some (.xd [(("number" : Str), x)]) → E (.ref C) (some d) H'
theorem Er.after {C : Addr} {E : XK} {H H1 : Hp} {x : V} (h : Er C E H x) (s : Same H H1) : Er C E H1 x := fun H' d s' e => h H' d (s.trans s') e
def sp_is_whole (K : PySem.W.Frag) : Sp := fun vs H Q _ => ∃ (x : V) (o : Option Int), vs = [x] ∧ Thing K H x o ∧ Q (.bl o.isSome) H
def sp_check_offset (K : PySem.W.Frag) : Sp := fun vs H Q _ => ∃ i : Int, vs = [.int i] ∧ 0 ≤ i ∧ Q .non H
def sp_init (K : PySem.W.Frag) (C : Addr) : Sp := fun vs H Q _ => ∃ (p dx : Addr) (x : Addr) (t : Bool) (xs : List Int), vs = [.ref p, .ref x] ∧ H p = some (.ins C dx []) ∧ Kd.Is K t H x (xs.map V.int) ∧ (∀ n ∈ xs, 0 ≤ n) ∧ xs.length < 2000 ∧
  ∀ H' ns, (∀ q o, q ≠ p → H q = some o → H' q = some o) → IsSort xs ns → ns.length ≤ xs.length → StrAt K C H' p ns → Q .non H'
def iterAt (K : PySem.W.Frag) (C p q : Addr) (ns : List Int) (H : Hp) : Prop := ∃ (dx : Addr) (fs : List (Str × V)), H p = some (.ins C dx fs) ∧ fs.lookup ("offsets" : Str) = some (.ref q) ∧ SqT K H q (ns.map V.int)
def sp_iter (K : PySem.W.Frag) (C : Addr) : Sp := fun vs H Q _ => ∃ (p q : Addr) (ns : List Int), vs = [.ref p] ∧ iterAt K C p q ns H ∧ ∀ it, H it = none → (∀ b o, H b = some o → b < it) → Q (.ref it) (upd H it (Li.TiO q it))
def spA_iter (K : PySem.W.Frag) (C : Addr) (n : Nat) : Sp := fun vs H Q _ => ∃ (p q : Addr) (ns : List Int), vs = [.ref p] ∧ iterAt K C p q ns H ∧ ∀ it, H it = none → n ≤ it → Q (.ref it) (upd H it (Li.TiO q it))
def sp_len (K : PySem.W.Frag) (C : Addr) : Sp := fun vs H Q _ => ∃ (p : Addr) (ns : List Int), vs = [.ref p] ∧ StrAt K C H p ns ∧ ns.length < 2000 ∧ Q (.int (ns.length : Nat)) H
def sp_is_number (K : PySem.W.Frag) : Sp := fun vs H Q _ => ∃ x d, vs = [x] ∧ Ob K H x d ∧ ∀ H' b, Same H H' → (b = true ↔ IsN x) → Q (.bl b) H'
def sp_check_number (K : PySem.W.Frag) (C : Addr) : Sp := fun vs H Q E => ∃ x d, vs = [x] ∧ Ob K H x d ∧ (IsN x → ∀ H', Same H H' → Q .non H') ∧ (¬ IsN x → Er C E H x)
def sp_blocks (K : PySem.W.Frag) (C : Addr) : Sp := fun vs H Q E => ∃ x d, vs = [x] ∧ Ob K H x d ∧
  (∀ ds, Num ds → x = .str (numS ds) → ∀ H' p, Same H H' → H p = none → H' p = some (.tup (ds.map fun (d : Nat) => V.int (d : Int))) → Q (.ref p) H') ∧ (¬ IsN x → Er C E H x)
def sp_row_of (K : PySem.W.Frag) (C : Addr) : Sp := fun vs H Q E => ∃ x d, vs = [x] ∧ Ob K H x d ∧
  (∀ ds, Num ds → x = .str (numS ds) → ∀ H' p, Same H H' → H p = none → H' p = some (.tup ((rowL ds).map V.int)) → Q (.ref p) H') ∧ (¬ IsN x → Er C E H x)
def sp_length_of (K : PySem.W.Frag) (C : Addr) : Sp := fun vs H Q E => ∃ x d, vs = [x] ∧ Ob K H x d ∧
  (∀ ds, Num ds → x = .str (numS ds) → ∀ H', Same H H' → Q (.int ((rowL ds).length : Nat)) H') ∧ (¬ IsN x → Er C E H x)
def sp_strokes_of (K : PySem.W.Frag) (C CN : Addr) : Sp := fun vs H Q E => ∃ x d, vs = [x] ∧ Ob K H x d ∧
  (∀ ds, Num ds → x = .str (numS ds) → ∀ H' p, Same H H' → H p = none → StrAt K C H' p (SI ds) → Q (.ref p) H') ∧ (¬ IsN x → Er CN E H x)
/-- so many rows -/
def patL (ds : List Nat) (n : Nat) : List Int := (List.range n).flatMap fun (a : Nat) => (SI ds).map fun k => (a : Int) * ((rowL ds).length : Nat) + k
def subL (ns ms : List Int) : List Int := ns.filter fun k => !decide (k ∈ ms)
def sp_contains (K : PySem.W.Frag) (C : Addr) : Sp := fun vs H Q _ => ∃ (p : Addr) (ns : List Int) (i : Int), vs = [.ref p, .int i] ∧ StrAt K C H p ns ∧ ns.length < 2000 ∧ Q (.bl (decide (i ∈ ns))) H
def sp_sub (K : PySem.W.Frag) (C : Addr) : Sp := fun vs H Q _ => ∃ (p q : Addr) (ns ms : List Int), vs = [.ref p, .ref q] ∧ StrAt K C H p ns ∧ Off ns ∧ StrAt K C H q ms ∧ Off ms ∧
  ∀ H' r, Same H H' → H r = none → StrAt K C H' r (subL ns ms) → Q (.ref r) H'
def optV : Option Int → V
  | none => .non
  | some i => .int i
def sp_lowest (K : PySem.W.Frag) (C : Addr) : Sp := fun vs H Q _ => ∃ (p : Addr) (ns : List Int), vs = [.ref p] ∧ StrAt K C H p ns ∧ ns.length < 2000 ∧ Q (optV ns.head?) H
def cutL (e : Int) (ns : List Int) : List Int := ns.filter fun k => decide (k < e)
def sp_cut (K : PySem.W.Frag) (C : Addr) : Sp := fun vs H Q _ => ∃ (p : Addr) (ns : List Int) (e : Int), vs = [.ref p, .int e] ∧ StrAt K C H p ns ∧ Off ns ∧
  ∀ H' r, Same H H' → H r = none → StrAt K C H' r (cutL e ns) → Q (.ref r) H'
def sp_swithin (K : PySem.W.Frag) (C : Addr) : Sp := fun vs H Q _ => ∃ (p q : Addr) (ns ms : List Int), vs = [.ref p, .ref q] ∧ StrAt K C H p ns ∧ Off ns ∧ StrAt K C H q ms ∧ Off ms ∧ ∀ H', Same H H' → Q (.bl (decide (∀ k ∈ ns, k ∈ ms))) H'
/-- where a box steps back -/
def backO (ds : List Nat) (ns : List Int) : Option Int := (subL (cutL ((rowL ds).length : Nat) ns) (SI ds)).head?
def cutO (o : Option Int) (ns : List Int) : List Int := match o with
  | none => ns
  | some e => cutL e ns
/-- the head -/
def headL (ds : List Nat) (ns : List Int) : List Int := if ∀ k ∈ cutO (backO ds ns) (SI ds), k ∈ ns then cutO (backO ds ns) (SI ds) else []
def sp_step_back (K : PySem.W.Frag) (C CN : Addr) : Sp := fun vs H Q E => ∃ (x : V) (d : PyData) (p : Addr) (ns : List Int), vs = [x, .ref p] ∧ Ob K H x d ∧ StrAt K C H p ns ∧ Off ns ∧
  (∀ ds, Num ds → x = .str (numS ds) → ∀ H', Same H H' → Q (optV (backO ds ns)) H') ∧ (¬ IsN x → Er CN E H x)
def sp_head_of (K : PySem.W.Frag) (C CN : Addr) : Sp := fun vs H Q E => ∃ (x : V) (d : PyData) (p : Addr) (ns : List Int), vs = [x, .ref p] ∧ Ob K H x d ∧ StrAt K C H p ns ∧ Off ns ∧
  (∀ ds, Num ds → x = .str (numS ds) → ∀ H' r, Same H H' → H r = none → StrAt K C H' r (headL ds ns) → Q (.ref r) H') ∧ (¬ IsN x → Er CN E H x)
/-- the length of a row -/
def len (ds : List Nat) : Int := ((rowL ds).length : Nat)
/-- n rounds from a on -/
def trL (ds : List Nat) (a : Int) (n : Nat) : List Int := (List.range n).flatMap fun (k : Nat) => (SI ds).map fun o => a + (k : Int) * len ds + o
/-- what of it lies in e ticks -/
def trC (ds : List Nat) (a : Int) (n : Nat) (e : Int) : List Int := (trL ds a n).filter fun o => decide (0 ≤ o) && decide (o < e)
/-- none of it foreign to es -/
def trB (ds es : List Nat) (n : Nat) (a : Int) : Bool := (trL ds a n).all fun o => !decide (o < len es) || decide (o ∈ SI es)
def TR (ds es : List Nat) (n : Nat) : List Int := ((List.range (rowL es).length).map fun (i : Nat) => (i : Int)).filter (trB ds es n)
def sp_train_strokes (K : PySem.W.Frag) (C CN : Addr) : Sp := fun vs H Q E => ∃ x d, ∃ a : Int, ∃ n : Nat, ∃ e : Int, vs = [x, .int a, .int (n : Nat), .int e] ∧ Ob K H x d ∧ n ≤ 8 ∧
  (∀ ds, Num ds → x = .str (numS ds) → ∀ H' p, Same H H' → H p = none → StrAt K C H' p (trC ds a n e) → Q (.ref p) H') ∧ (¬ IsN x → Er CN E H x)
/-- a lay -/
structure Ly where
  ds : List Nat
  kind : Str
  a : Int
  n : Nat
  ns : List Int
  e : Int
  deriving DecidableEq
def LayAt (K : PySem.W.Frag) (C L : Addr) (H : Hp) (v : V) (y : Ly) : Prop := ∃ p dx fs q, v = .ref p ∧ H p = some (.ins L dx fs) ∧ fs.lookup ("number" : Str) = some (.str (numS y.ds)) ∧ fs.lookup ("kind" : Str) = some (.str y.kind) ∧ fs.lookup ("at" : Str) = some (.int y.a) ∧
  fs.lookup ("rounds" : Str) = some (.int (y.n : Nat)) ∧ fs.lookup ("strokes" : Str) = some (.ref q) ∧ StrAt K C H q y.ns ∧ fs.lookup ("end" : Str) = some (.int y.e) ∧ ∀ m : Str, m ≠ "number" → m ≠ "kind" → m ≠ "at" → m ≠ "rounds" → m ≠ "strokes" → m ≠ "end" → fs.lookup m = none
inductive LaysAt (K : PySem.W.Frag) (C L : Addr) (H : Hp) : List V → List Ly → Prop
  | nil : LaysAt K C L H [] []
  | cons {v : V} {y : Ly} {vs : List V} {ys : List Ly} : LayAt K C L H v y → LaysAt K C L H vs ys → LaysAt K C L H (v :: vs) (y :: ys)
def sp_linit (K : PySem.W.Frag) (C L : Addr) : Sp := fun vs H Q _ => ∃ (p dx q : Addr) (ds : List Nat) (kind : Str) (a : Int) (n : Nat) (e : Int) (ns : List Int), vs = [.ref p, .str (numS ds), .str kind, .int a, .int (n : Nat), .ref q, .int e] ∧ H p = some (.ins L dx []) ∧ q ≠ p ∧ StrAt K C H q ns ∧
  ∀ H', (∀ r o, r ≠ p → H r = some o → H' r = some o) → LayAt K C L H' (.ref p) ⟨ds, kind, a, n, ns, e⟩ → Q .non H'
/-- a train of ds over strokes ns in e ticks -/
def TrainAt (K : PySem.W.Frag) (TC : Addr) (H : Hp) (p : Addr) (ds : List Nat) (ns : List Int) (e : Int) : Prop := ∃ dx fs q kn kvs, H p = some (.ins TC dx fs) ∧ fs.lookup ("span" : Str) = some (.int e) ∧ fs.lookup ("number" : Str) = some (.str (numS ds)) ∧ fs.lookup ("length" : Str) = some (.int (len ds)) ∧
  fs.lookup ("offsets" : Str) = some (.ref q) ∧ SqT K H q ((SI ds).map V.int) ∧ fs.lookup ("known" : Str) = some (.ref kn) ∧ H kn = some (.dK kvs) ∧ (∀ i : Int, (valV kvs (.inl i)).isSome = decide (i ∈ ns)) ∧
  ∀ m : Str, m ≠ "span" → m ≠ "number" → m ≠ "length" → m ≠ "offsets" → m ≠ "known" → fs.lookup m = none
def sp_tinit (K : PySem.W.Frag) (C TC : Addr) : Sp := fun vs H Q _ => ∃ (p dx q : Addr) (ds : List Nat) (ns : List Int) (e : Int), vs = [.ref p, .ref q, .int e, .str (numS ds)] ∧ H p = some (.ins TC dx []) ∧ q ≠ p ∧ Num ds ∧ StrAt K C H q ns ∧ Off ns ∧
  ∀ H', (∀ r o, r ≠ p → H r = some o → H' r = some o) → TrainAt K TC H' p ds ns e → Q .non H'
/-- a foreign stroke in the round from a -/
def forB (ds : List Nat) (ns : List Int) (e a : Int) : Bool := (SI ds).any fun o => !decide (a + o ∈ ns) && (decide (0 ≤ a + o) && decide (a + o < e))
def sp_has_foreign (K : PySem.W.Frag) (TC : Addr) : Sp := fun vs H Q _ => ∃ (p : Addr) (a : Int) (ds : List Nat) (ns : List Int) (e : Int), vs = [.ref p, .int a] ∧ TrainAt K TC H p ds ns e ∧ Num ds ∧ Q (.bl (forB ds ns e a)) H
/-- the rounds before the first foreign one -/
def goodN (ds : List Nat) (ns : List Int) (e a : Int) (m : Nat) : Nat := ((List.range m).find? fun (k : Nat) => forB ds ns e (a + (k : Int) * len ds)).getD m
def sp_good_rounds (K : PySem.W.Frag) (TC : Addr) : Sp := fun vs H Q _ => ∃ (p : Addr) (a : Int) (m : Nat) (ds : List Nat) (ns : List Int) (e : Int), vs = [.ref p, .int a, .int (m : Nat)] ∧ TrainAt K TC H p ds ns e ∧ Num ds ∧ m ≤ 8 ∧ Q (.int (goodN ds ns e a m : Nat)) H
def lyL (ds : List Nat) (kind : Str) (ns : List Int) (e a : Int) (lo m : Nat) : List Ly := ((List.range' lo (goodN ds ns e a m + 1 - lo)).filter fun k => !decide (trC ds a k e = [])).map fun k => ⟨ds, kind, a, k, trC ds a k e, a + (k : Int) * len ds⟩
def sp_lays_from (K : PySem.W.Frag) (C TC L : Addr) : Sp := fun vs H Q _ => ∃ (p : Addr) (kind : Str) (a : Int) (lo m : Nat) (ds : List Nat) (ns : List Int) (e : Int), vs = [.ref p, .str kind, .int a, .int (lo : Nat), .int (m : Nat)] ∧ TrainAt K TC H p ds ns e ∧ Num ds ∧ m ≤ 8 ∧ lo ≤ 8 ∧
  ∀ H' r xs, Same H H' → H r = none → H' r = some (.lst xs) → LaysAt K C L H' xs (lyL ds kind ns e a lo m) → Q (.ref r) H'
/-- the three cases -/
inductive Ca | quiet | train | key
def caS : Ca → Str
  | .quiet => "quiet"
  | .train => "train"
  | .key => "key"
def tailL (ds : List Nat) (ns : List Int) (e : Int) (n : Nat) : List Ly := (List.range ((rowL ds).length - 1)).flatMap fun (t : Nat) => lyL ds "tail" ns e (-(1 + (t : Int))) 1 n
def pullL (ds : List Nat) (ns : List Int) (e : Int) (n : Nat) : List Ly := (cutL e ns).flatMap fun a => lyL ds "pull" ns e a n n
def preL (ds : List Nat) (ns : List Int) (e : Int) (n : Nat) : Ca → List Ly
  | .quiet => []
  | .train => lyL ds "train" ns e 0 1 (n - 1)
  | .key => lyL ds "train" ns e 0 1 (n - 1) ++ tailL ds ns e n
def plainL (ds : List Nat) (ns : List Int) (e : Int) (n : Nat) (c : Ca) : List Ly := preL ds ns e n c ++ pullL ds ns e n
def shyL (ds : List Nat) (ns : List Int) (e : Int) : Ca → List Ly
  | .quiet => if headL ds ns = [] then [] else [⟨ds, "head", 0, 1, headL ds ns, e⟩]
  | _ => []
def sp_plain_lays (K : PySem.W.Frag) (C L : Addr) : Sp := fun vs H Q _ => ∃ (p : Addr) (ds : List Nat) (ns : List Int) (e : Int) (n : Nat) (c : Ca), vs = [.ref p, .int e, .str (numS ds), .int (n : Nat), .str (caS c)] ∧ Num ds ∧ StrAt K C H p ns ∧ Off ns ∧ ns.length ≤ 100 ∧ 1 ≤ n ∧ n ≤ 8 ∧
  ∀ H' r xs, Same H H' → H r = none → H' r = some (.lst xs) → LaysAt K C L H' xs (plainL ds ns e n c) → Q (.ref r) H'
def sp_shy_lays (K : PySem.W.Frag) (C L : Addr) : Sp := fun vs H Q _ => ∃ (p : Addr) (ds : List Nat) (ns : List Int) (e : Int) (c : Ca), vs = [.ref p, .int e, .str (numS ds), .str (caS c)] ∧ Num ds ∧ StrAt K C H p ns ∧ Off ns ∧
  ∀ H' r xs, Same H H' → H r = none → H' r = some (.lst xs) → LaysAt K C L H' xs (shyL ds ns e c) → Q (.ref r) H'
/-- a box: its number, plain or shy -/
abbrev Bo := List Nat × Bool
def soS (b : Bool) : Str := if b then "plain" else "shy"
def BoAt (H : Hp) (v : V) (x : Bo) : Prop := ∃ t, v = .ref t ∧ H t = some (.tup [.str (numS x.1), .str (soS x.2)])
inductive BosAt (H : Hp) : List V → List Bo → Prop
  | nil : BosAt H [] []
  | cons {v : V} {x : Bo} {vs : List V} {xs : List Bo} : BoAt H v x → BosAt H vs xs → BosAt H (v :: vs) (x :: xs)
def boxL (ns : List Int) (e : Int) (n : Nat) (c : Ca) (x : Bo) : List Ly := if x.2 then plainL x.1 ns e n c else shyL x.1 ns e c
def laysL (xs : List Bo) (ns : List Int) (e : Int) (n : Nat) (c : Ca) : List Ly := xs.flatMap (boxL ns e n c)
/-- a case that is none -/
def OddC (K : PySem.W.Frag) (H : Hp) (v : V) (d : PyData) : Prop := Dp K H v d ∧ d.canLay0 = true ∧ d.depth ≤ 60 ∧ ([PyData.str "quiet", .str "train", .str "key"].any fun z => PyData.eqv z d) = false
def ErC (C : Addr) (E : XK) (H : Hp) (x : V) : Prop := ∀ H' d, Same H H' → H' d = some (.xd [(("case" : Str), x)]) → E (.ref C) (some d) H'
def ErW (C : Addr) (E : XK) (H : Hp) (x : V) : Prop := ∀ H' d, Same H H' → H' d = some (.xd [(("wanted" : Str), x)]) → E (.ref C) (some d) H'
/-- what lays is given: strokes, the span, boxes, rounds -/
structure Wl where
  xs : List Bo
  ns : List Int
  e : Int
  n : Nat
def Wl.L (m : Wl) (c : Ca) : List Ly := laysL m.xs m.ns m.e m.n c
structure Wl.Ok (m : Wl) : Prop where
  x4 : m.xs.length ≤ 4
  num : ∀ x ∈ m.xs, Num x.1
  off : Off m.ns
  few : m.ns.length ≤ 100
  n1 : 1 ≤ m.n
  n8 : m.n ≤ 8
  e1 : 1 ≤ m.e
  e2 : m.e ≤ 1000
def WlAt (K : PySem.W.Frag) (C : Addr) (H : Hp) (p b : Addr) (bs : List V) (m : Wl) : Prop := H b = some (.tup bs) ∧ BosAt H bs m.xs ∧ StrAt K C H p m.ns
def wlV (p b : Addr) (m : Wl) (cv : V) : List V := [.ref p, .int m.e, .ref b, .int (m.n : Nat), cv]
def sp_lays (K : PySem.W.Frag) (C L CY : Addr) : SpG := fun vs H cont E => ∃ (p b : Addr) (bs : List V) (m : Wl) (cv : V), vs = wlV p b m cv ∧ WlAt K C H p b bs m ∧ m.Ok ∧
  ((∃ c, cv = .str (caS c) ∧ ∀ H' ys, Same H H' → LaysAt K C L H' ys (m.L c) → cont ys H') ∨ (∃ d, OddC K H cv d ∧ ErC CY E H cv))
/-- all stands but at B -/
def Bt (B : Addr → Prop) (H H' : Hp) : Prop := ∀ q o, ¬ B q → H q = some o → H' q = some o
/-- what a consumer may change -/
def Soft : HO → Prop
  | .lst _ => True
  | .dK _ => True
  | .dT _ => True
  | .set _ _ => True
  | .ext _ => True
  | _ => False
/-- the consumer is free between two lays -/
def sp3_lays (K : PySem.W.Frag) (C L CY : Addr) : G3.Sp3 := fun vs H γ Y Q E => ∃ (p b : Addr) (bs : List V) (m : Wl) (cv : V), vs = wlV p b m cv ∧ WlAt K C H p b bs m ∧ m.Ok ∧
  ((∃ c, cv = .str (caS c) ∧ ∃ (J : Nat → L2.St → Hp → Prop) (B : Addr → Prop), J 0 γ H ∧ (∀ i γ H, J i γ H → (∀ q, B q → ∃ o, H q = some o ∧ Soft o) ∧ WlAt K C H p b bs m) ∧
    (∀ i γ H H' v y, J i γ H → Same H H' → (m.L c)[i]? = some y → LayAt K C L H' v y → Y i v γ H' fun γ2 H2 => J (i + 1) γ2 H2 ∧ Bt B H' H2) ∧ ∀ γ H H', J (m.L c).length γ H → Same H H' → Q γ H') ∨
   (∃ d, OddC K H cv d ∧ ErC CY E H cv))
def sp_seq (K : PySem.W.Frag) (C : Addr) : Sp := fun vs H Q _ => ∃ (p q : Addr) (ns ms : List Int), vs = [.ref p, .ref q] ∧ StrAt K C H p ns ∧ StrAt K C H q ms ∧ Q (.bl (decide (ns = ms))) H
/-- the facts of a lay -/
def fvs (y : Ly) : List V := [.str (numS y.ds), .str y.kind, .int y.a, .int (y.n : Nat)]
def sp_leq (K : PySem.W.Frag) (C L : Addr) : Sp := fun vs H Q _ => ∃ (p q : Addr) (y : Ly), vs = [.ref p, .ref q] ∧ LayAt K C L H (.ref p) y ∧ ((∃ y2, LayAt K C L H (.ref q) y2 ∧ Q (.bl (decide (y = y2))) H) ∨ (∃ xs, H q = some (.tup xs) ∧ Q (.bl false) H))
def sp_facts (K : PySem.W.Frag) (C L : Addr) : Sp := fun vs H Q _ => ∃ (p : Addr) (y : Ly), vs = [.ref p] ∧ LayAt K C L H (.ref p) y ∧ ∀ H' r, Same H H' → H' r = some (.tup [.str (numS y.ds), .str y.kind, .int y.a, .int (y.n : Nat)]) → Q (.ref r) H'
def sp_bag (K : PySem.W.Frag) : Sp := fun vs H Q _ => ∃ (a : Addr) (ns : List Int), vs = [.ref a] ∧ SqL K H a (ns.map V.int) ∧ ns.length ≤ 63 ∧ ∀ H' b, Same H H' → Bag H' b 0 → Q (.ref b) H'
def sp_draw (K : PySem.W.Frag) : Sp := fun vs H Q _ => ∃ (b : Addr) (n : Nat) (lim : Int), vs = [.ref b, .int lim] ∧ 0 < lim ∧ lim < 1267650600228229401496703205376 ∧ Bag H b n ∧ n ≤ 1000000 ∧
  ∀ H' d, 0 ≤ d → d < lim → Bag H' b (n + 1) → But b H H' → Q (.int d) H'
def sp_number (K : PySem.W.Frag) : Sp := fun vs H Q _ => ∃ (b : Addr) (n : Nat), vs = [.ref b] ∧ Bag H b n ∧ n ≤ 900000 ∧ ∀ H' (ds : List Nat), Num ds → Bag H' b (n + 6) → But b H H' → Q (.str (numS ds)) H'
def sp_row (K : PySem.W.Frag) : Sp := fun vs H Q _ => ∃ ds, vs = [.str (numS ds)] ∧ Num ds ∧ ∀ H' p, Same H H' → H p = none → H' p = some (.lst ((rowL ds).map V.int)) → Q (.ref p) H'
def sp_says (K : PySem.W.Frag) : Sp := fun vs H Q _ => ∃ a b : Bool, vs = [.bl a, .bl b] ∧ Q (.bl (decide (a = b))) H
def sp_digits (K : PySem.W.Frag) : Sp := fun vs H Q _ => ∃ (b : Addr) (n many top : Nat), vs = [.ref b, .int (many : Nat), .int (top : Nat)] ∧ Bag H b n ∧ n ≤ 900000 ∧ many ≤ 4 ∧ 1 ≤ top ∧ top ≤ 4 ∧ ∀ H' (ds : List Nat), ds.length = many → (∀ d ∈ ds, 1 ≤ d ∧ d ≤ top) → Bag H' b (n + many) → But b H H' → Q (.str (numS ds)) H'
def sp_center (K : PySem.W.Frag) : Sp := fun vs H Q _ => ∃ (b : Addr) (n : Nat), vs = [.ref b] ∧ Bag H b n ∧ n ≤ 800000 ∧ ∀ H' (ds : List Nat), Num ds → Bag H' b (n + 7) → But b H H' → Q (.str (numS ds)) H'
def sp_beside (K : PySem.W.Frag) : Sp := fun vs H Q _ => ∃ (b : Addr) (n : Nat) (ds : List Nat), vs = [.ref b, .str (numS ds)] ∧ Num ds ∧ Bag H b n ∧ n ≤ 800000 ∧ ∀ H' (es : List Nat), Num es → Bag H' b (n + 8) → But b H H' → Q (.str (numS es)) H'
def sp_boxes (K : PySem.W.Frag) : Sp := fun vs H Q _ => ∃ (b : Addr) (n many : Nat) (ds : List Nat), vs = [.ref b, .str (numS ds), .int (many : Nat)] ∧ Num ds ∧ Bag H b n ∧ n ≤ 700000 ∧ many ≤ 4 ∧ ∀ H' r bs (xs : List Bo), H r = none → H' r = some (.tup bs) → BosAt H' bs xs → xs.length ≤ 4 → (∀ x ∈ xs, Num x.1) → (xs.map (·.1)).Nodup → Bag H' b (n + 40) → But b H H' → Q (.ref r) H'
def sp_offsets (K : PySem.W.Frag) : Sp := fun vs H Q _ => ∃ (b : Addr) (n : Nat) (ds : List Nat), vs = [.ref b, .str (numS ds)] ∧ Num ds ∧ Bag H b n ∧ n ≤ 800000 ∧ ∀ H' r q (xs : List Int) (e : Nat), H' r = some (.lst [.ref q, .int (e : Nat)]) → H' q = some (.lst (xs.map V.int)) → (∀ x ∈ xs, 0 ≤ x ∧ x < (e : Int)) → xs.length ≤ 60 → 1 ≤ e → e ≤ 200 → Bag H' b (n + 12) → But b H H' → Q (.ref r) H'
def mkLy (ds : List Nat) (kind : Str) (e a : Int) (k : Nat) : Ly := ⟨ds, kind, a, k, trC ds a k e, a + (k : Int) * len ds⟩
/-- single things -/
inductive Sc : V → Prop
  | non : Sc .non
  | bl (b : Bool) : Sc (.bl b)
  | int (i : Int) : i.natAbs < 2 ^ 200 → Sc (.int i)
  | str {t : Str} : Tx t → Sc (.str t)
def scD : V → PyData
  | .bl b => .bool b
  | .int i => .int i
  | .str t => .str t
  | _ => .none
/-- facts, right or wrong -/
inductive Fx where
  | tup (xs : List V) | lst (xs : List V) | sc (x : V)
def Fx.vs : Fx → List V
  | .tup xs => xs
  | .lst xs => xs
  | .sc x => [x]
def Fx.D : Fx → PyData
  | .tup xs => .tuple (xs.map scD)
  | .lst xs => .list (xs.map scD)
  | .sc x => scD x
def FxAt (K : PySem.W.Frag) (H : Hp) (v : V) : Fx → Prop
  | .tup xs => ∃ p, v = .ref p ∧ SqT K H p xs
  | .lst xs => ∃ p, v = .ref p ∧ H p = some (.lst xs)
  | .sc x => v = x
structure Fx.Ok (f : Fx) : Prop where
  sc : ∀ x ∈ f.vs, Sc x
  few : f.vs.length ≤ 6
def isF (f : Fx) (y : Ly) : Bool := match f with
  | .tup xs => decide (xs = fvs y)
  | _ => false
/-- what all lays have -/
structure LyOk (y : Ly) : Prop where
  num : Num y.ds
  kind : Tx y.kind
  a : y.a.natAbs < 2 ^ 100
  n : y.n ≤ 8
  lt : y.a < y.e
def sp_are_facts_of (K : PySem.W.Frag) (C L : Addr) : Sp := fun vs H Q _ => ∃ (v : V) (p : Addr) (f : Fx) (y : Ly), vs = [v, .ref p] ∧ FxAt K H v f ∧ f.Ok ∧ LayAt K C L H (.ref p) y ∧ LyOk y ∧ ∀ H', Same H H' → Q (.bl (isF f y)) H'
def sp_clash (K : PySem.W.Frag) (C L : Addr) : Sp := fun vs H Q _ => ∃ (p q : Addr) (y z : Ly), vs = [.ref p, .ref q] ∧ LayAt K C L H (.ref p) y ∧ LayAt K C L H (.ref q) z ∧ Q (.bl (decide (y.ds = z.ds ∧ y.a < z.e ∧ z.a < y.e))) H
def sp_lay_of (K : PySem.W.Frag) (C L CY CZ : Addr) : Sp := fun vs H Q E => ∃ (v cv : V) (p b : Addr) (bs : List V) (m : Wl) (f : Fx), vs = v :: wlV p b m cv ∧ FxAt K H v f ∧ f.Ok ∧ WlAt K C H p b bs m ∧ m.Ok ∧
  ((∃ c, cv = .str (caS c) ∧ (∀ y, (m.L c).find? (isF f) = some y → ∀ H' u, Same H H' → LayAt K C L H' u y → Q u H') ∧ ((m.L c).find? (isF f) = none → ErW CZ E H v)) ∨ (∃ d, OddC K H cv d ∧ ErC CY E H cv))
def sp_bent (K : PySem.W.Frag) : Sp := fun vs H Q _ => ∃ (b t : Addr) (n : Nat) (ds : List Nat) (k : Str) (a i : Int), vs = [.ref b, .ref t] ∧ Bag H b n ∧ n ≤ 900000 ∧ H t = some (.tup [.str (numS ds), .str k, .int a, .int i]) ∧ Num ds ∧ Tx k ∧ a.natAbs < 2 ^ 100 ∧ i.natAbs < 2 ^ 100 ∧
  ∀ H' v f, FxAt K H' v f → f.Ok → Bag H' b (n + 3) → But b H H' → Q v H'
def sp_tried (K : PySem.W.Frag) (C L : Addr) : Sp := fun vs H Q _ => ∃ (v cv : V) (p b : Addr) (bs : List V) (m : Wl) (f : Fx), vs = v :: wlV p b m cv ∧ FxAt K H v f ∧ f.Ok ∧ WlAt K C H p b bs m ∧ m.Ok ∧
  ((∃ c, cv = .str (caS c) ∧ ∀ H' r, Same H H' → H r = none → (∀ y, (m.L c).find? (isF f) = some y → ∀ u, H' r = some (.lst [.str "lay", u]) → LayAt K C L H' u y → Q (.ref r) H') ∧ ((m.L c).find? (isF f) = none → H' r = some (.lst [.str "no lay", .str f.D.shown]) → Q (.ref r) H')) ∨
   (∃ d, OddC K H cv d ∧ d.showable = true ∧ d.hasDict = false ∧ d.shown.length ≤ sizeLine ∧ ∀ H' r, Same H H' → H' r = some (.lst [.str "case", .str d.shown, .bl true]) → Q (.ref r) H'))
def sp_listed (K : PySem.W.Frag) (C L : Addr) : Sp := fun vs H Q _ => ∃ (p b : Addr) (bs : List V) (m : Wl) (cv : V), vs = wlV p b m cv ∧ WlAt K C H p b bs m ∧ m.Ok ∧
  ((∃ c, cv = .str (caS c) ∧ ∀ H' r ys, Same H H' → H r = none → H' r = some (.lst ys) → LaysAt K C L H' ys (m.L c) → Q (.ref r) H') ∨
   (∃ d, OddC K H cv d ∧ d.showable = true ∧ d.hasDict = false ∧ d.shown.length ≤ sizeLine ∧ ∀ H' r, Same H H' → H' r = some (.lst [.str "case", .str d.shown, .bl true]) → Q (.ref r) H'))
def sp_known (K : PySem.W.Frag) (C L : Addr) : Sp := fun vs H Q _ => ∃ (v : V) (q : Addr) (f : Fx) (us : List V) (ys : List Ly), vs = [v, .ref q] ∧ FxAt K H v f ∧ f.Ok ∧ H q = some (.lst us) ∧ LaysAt K C L H us ys ∧ (∀ y ∈ ys, LyOk y) ∧
  ∀ H', Same H H' → ((∀ y, ys.find? (isF f) = some y → ∀ u, LayAt K C L H' u y → Q u H') ∧ (ys.find? (isF f) = none → Q .non H'))
def sp_overlap (K : PySem.W.Frag) (C L : Addr) : Sp := fun vs H Q _ => ∃ (p q : Addr) (y z : Ly), vs = [.ref p, .ref q] ∧ LayAt K C L H (.ref p) y ∧ LayAt K C L H (.ref q) z ∧ Q (.bl (decide (y.ds = z.ds ∧ (y.a < y.e ∧ y.a < z.e) ∧ z.a < y.e ∧ z.a < z.e))) H
def sp_wlays (K : PySem.W.Frag) (C L : Addr) : Sp := fun vs H Q _ => ∃ (q p b : Addr) (bs us : List V) (m : Wl) (c : Ca), vs = .ref q :: wlV p b m (.str (caS c)) ∧ H q = some (.lst us) ∧ LaysAt K C L H us (m.L c) ∧ WlAt K C H p b bs m ∧ m.Ok ∧ (m.L c).Nodup ∧ (∀ y ∈ m.L c, ∀ z ∈ m.L c, fvs y = fvs z → y = z) ∧ (∀ y ∈ m.L c, LyOk y) ∧ ∀ H', Same H H' → Q (.bl true) H'
def sp_twins (K : PySem.W.Frag) (C L : Addr) : Sp := fun vs H Q _ => ∃ (p q : Addr) (us ws : List V) (ys zs : List Ly), vs = [.ref p, .ref q] ∧ H p = some (.lst us) ∧ H q = some (.lst ws) ∧ LaysAt K C L H us ys ∧ LaysAt K C L H ws zs ∧ (∀ y ∈ ys ++ zs, LyOk y ∧ y.ns.length < 1000) ∧ us.length ≤ 4000 ∧ ws.length ≤ 4000 ∧ ∀ H', Same H H' → Q (.bl true) H'
def sp_law (K : PySem.W.Frag) : Sp := fun vs H Q _ => ∃ (a : Addr) (ns : List Int), vs = [.ref a] ∧ SqL K H a (ns.map V.int) ∧ ns.length ≤ 63 ∧ ∀ H', Q (.bl true) H'
end K15

namespace K15
open PySem L2 Wm TL Dv
section
variable {P : Program} {w : World} {K : PySem.W.Frag} {mg : Str → Option Value} {base : Heap}
theorem tk_succ {α : Type} {l : List α} {i : Nat} {x : α} (h : l[i]? = some x) : l.take (i + 1) = l.take i ++ [x] := by
  rw [List.take_succ, h]
  rfl
theorem tyT {H : Hp} {p : Addr} {xs : List V} (h : SqT K H p xs) : TyX K H (.ref p) (.type "tuple") := by
  rcases h with (h | ⟨o, h⟩) | ⟨o, its, n, e, c, _⟩
  · exact .base (.tup h)
  · exact .fTuple h
  · exact .kTuple e c
theorem tyL {H : Hp} {p : Addr} {xs : List V} (h : SqL K H p xs) : TyX K H (.ref p) (.type "list") := by
  rcases h with (h | ⟨o, h⟩) | ⟨o, its, n, e, c, _⟩
  · exact .base (.lst h)
  · exact .base (.frz h)
  · exact .kList e c
theorem iteN {c : Bool} {A B : Prop} (e : c = false) (h : B) : if c = true then A else B := by
  rw [e]
  exact iteF h
theorem flat_ints (ns : List Int) : (ns.map V.int).all flatV = true := by
  rw [List.all_map]
  exact List.all_eq_true.mpr fun _ _ => rfl
theorem in_ints (x : Int) : ∀ ns : List Int, inV (.int x) (ns.map V.int) = decide (x ∈ ns)
  | [] => rfl
  | n :: ns => by
    have ih := in_ints x ns
    unfold inV at ih ⊢
    rw [List.map_cons, List.any_cons, ih]
    show ((n == x) || decide (x ∈ ns)) = _
    by_cases e : n = x
    · subst e; simp
    · simp [e, Ne.symm e]
theorem dp_ints {H : Hp} : ∀ ns : List Int, DpAll K H (ns.map V.int) (ns.map PyData.int)
  | [] => .nil
  | n :: ns => .cons (.int n) (dp_ints ns)
theorem fine_off (ns : List Int) : Fine 1 (offD ns) := fine_tup (n := 0) fun d m => by
  obtain ⟨n, _, rfl⟩ := List.mem_map.mp m
  exact fine_int n
theorem eqv_ints : ∀ a b : List Int, PyData.eqvAll (a.map PyData.int) (b.map PyData.int) = decide (a = b)
  | [], [] => rfl
  | [], _ :: _ => rfl
  | _ :: _, [] => rfl
  | x :: a, y :: b => by
    rw [List.map_cons, List.map_cons]
    unfold PyData.eqvAll
    rw [eqv_ints a b]
    by_cases e : x = y
    · subst e; simp [PyData.eqv]
    · simp [PyData.eqv, e]
theorem eqv_off (a b : List Int) : PyData.eqv (offD a) (offD b) = decide (a = b) := by
  unfold offD PyData.eqv
  exact eqv_ints a b
theorem ok_is_whole (T : Txt K mg) : FnOk P w K mg base CX0 1 T.a_is_whole T.d_is_whole ["thing"] (sp_is_whole K) := by
  refine T.F_is_whole.ok sc_is_whole (fun vs H Q E h => ?_) (fun cdv A outer s H vs Q E hr h => ?_)
  · obtain ⟨x, o, rfl, _⟩ := h
    rfl
  · obtain ⟨x, o, rfl, hx, k⟩ := h
    refine ⟨_, (pss_one (ps_ret (pe_and (pe_callB call_isi (by rfl) T.z_isinstance (by decide +kernel) (pa_cons (pv 0) (pa_cons (pe_bltn (v := V.ty "int") (by rfl) T.z_int (by decide +kernel) rfl) pa_nil))) (pe_one (pe_not (pe_callB call_isi (by rfl) T.z_isinstance (by decide +kernel) (pa_cons (pv 0) (pa_cons (pe_bltn (v := V.ty "bool") (by rfl) T.z_bool (by decide +kernel) rfl) pa_nil)))))))), ?_⟩
    cases hx with
    | int i =>
      refine ⟨_, rfl, _, _, _, _, true, rfl, .ty "int", .base (.int _), kit_ty (by decide +kernel), true, rfl, iteT ?_⟩
      exact ⟨_, rfl, _, _, _, _, false, rfl, .ty "bool", .base (.int _), kit_ty (by decide +kernel), false, rfl, k⟩
    | bl b =>
      refine ⟨_, rfl, _, _, _, _, true, rfl, .ty "int", .base (.bl _), kit_ty (by decide +kernel), true, rfl, iteT ?_⟩
      exact ⟨_, rfl, _, _, _, _, true, rfl, .ty "bool", .base (.bl _), kit_ty (by decide +kernel), true, rfl, k⟩
    | str s => exact ⟨_, rfl, _, _, _, _, false, rfl, .ty "int", .base (.str _), kit_ty (by decide +kernel), false, rfl, iteF k⟩
    | non => exact ⟨_, rfl, _, _, _, _, false, rfl, .ty "int", .base .non, kit_ty (by decide +kernel), false, rfl, iteF k⟩
    | @seq t p xs h =>
      cases t with
      | true => exact ⟨_, rfl, _, _, _, _, false, rfl, .ty "int", tyT h, kit_ty (by decide +kernel), false, rfl, iteF k⟩
      | false => exact ⟨_, rfl, _, _, _, _, false, rfl, .ty "int", tyL h, kit_ty (by decide +kernel), false, rfl, iteF k⟩
theorem ok_check_offset (T : Txt K mg) : FnOk P w K mg base CX0 2 T.a_check_offset T.d_check_offset ["thing"] (sp_check_offset K) := by
  refine T.F_check_offset.ok sc_check_offset (fun vs H Q E h => ?_) (fun cdv A outer s H vs Q E hr h => ?_)
  · obtain ⟨i, rfl, _⟩ := h
    rfl
  · obtain ⟨i, rfl, h0, k⟩ := h
    refine ⟨_, (pss_one (ps_if (PW.pt (pw_or (pt_not (pt_val (pe_call (ok_is_whole T) (hr.mono (by decide)) (by rfl) T.g_is_whole T.F_is_whole.kp T.b_is_whole .nil pass0 (pa_cons (pv 0) pa_nil)))) (pw_or1 (pt_cmpR op_lt (pv 0) pe_int (nomark _)))))
        (pss_one ps_never)
        pss_nil)), ?_⟩
    refine ⟨_, rfl, _, some i, rfl, .int i, true, rfl, iteF ?_⟩
    exact ⟨_, rfl, i, 0, rfl, rfl, _, rfl, iteN (decide_eq_false (by omega)) k⟩
theorem ok_iter (T : Txt K mg) : FnOk P w K mg base CX0 1 T.a_iter T.d_iter ["self"] (sp_iter K T.C) := by
  refine T.F_iter.ok sc_iter (fun vs H Q E h => ?_) (fun cdv A outer s H vs Q E hr h => ?_)
  · obtain ⟨p, q, ns, rfl, _⟩ := h
    rfl
  · obtain ⟨p, q, ns, rfl, ⟨dx, fs, hp, l1, hq⟩, k⟩ := h
    refine ⟨_, (pss_one (ps_ret (pe_callB Li.call_iterT (by rfl) T.z_iter (by decide +kernel) (pa_cons (pe_fld (pv 0) rfl) pa_nil)))), ?_⟩
    exact ⟨_, rfl, p, T.C, dx, fs, _, rfl, hp, T.clC, T.nO, l1, q, _, rfl, hq, k⟩
theorem okA_iter (T : Txt K mg) : Li.FnA P w K mg base 1 T.a_iter (spA_iter K T.C) := by
  refine Li.fnA_of T.F_iter sc_iter T.b_iter (fun n vs H Q E h => ?_) (fun cdv A outer s H vs Q E hr h => ?_)
  · obtain ⟨p, q, ns, rfl, _⟩ := h
    rfl
  · obtain ⟨p, q, ns, rfl, ⟨dx, fs, hp, l1, hq⟩, k⟩ := h
    refine ⟨_, (pss_one (ps_ret (pe_callB Li.call_iterN (by rfl) T.z_iter (by decide +kernel) (pa_cons (pe_fld (pv 0) rfl) pa_nil)))), ?_⟩
    exact ⟨_, rfl, p, T.C, dx, fs, _, rfl, hp, T.clC, T.nO, l1, q, _, rfl, hq, k⟩
theorem ok_len (T : Txt K mg) : FnOk P w K mg base CX0 1 T.a_len T.d_len ["self"] (sp_len K T.C) := by
  refine T.F_len.ok sc_len (fun vs H Q E h => ?_) (fun cdv A outer s H vs Q E hr h => ?_)
  · obtain ⟨p, ns, rfl, _⟩ := h
    rfl
  · obtain ⟨p, ns, rfl, ⟨dx, fs, q, hp, l1, l2, hq⟩, few, k⟩ := h
    refine ⟨_, (pss_one (ps_ret (pe_callB call_len_seq (by rfl) T.z_len PySem.boot_len (pa_cons (pe_fld (pv 0) rfl) pa_nil)))), ?_⟩
    refine ⟨_, rfl, p, T.C, dx, fs, _, rfl, hp, T.clC, T.nO, l1, q, _, rfl, .inr hq, ?_⟩
    rw [List.length_map]
    exact k
theorem ok_lowest (T : Txt K mg) : FnOk P w K mg base CX0 1 T.a_lowest T.d_lowest ["self"] (sp_lowest K T.C) := by
  refine T.F_lowest.ok sc_lowest (fun vs H Q E h => ?_) (fun cdv A outer s H vs Q E hr h => ?_)
  · obtain ⟨p, ns, rfl, _⟩ := h
    rfl
  · obtain ⟨p, ns, rfl, ⟨dx, fs, q, hp, l1, l2, hq⟩, few, k⟩ := h
    refine ⟨_, (pss_one (ps_ret (pe_ifExp (pt_cmpR op_gt (pe_callB call_len_seq (by rfl) T.z_len PySem.boot_len (pa_cons (pe_fld (pv 0) rfl) pa_nil)) pe_int (nomark _)) (pe_ix ix_tup (pe_fld (pv 0) rfl) pe_int (fun _ _ => rfl)) pe_non))), ?_⟩
    refine ⟨_, rfl, p, T.C, dx, fs, _, rfl, hp, T.clC, T.nO, l1, q, _, rfl, .inr hq, ?_⟩
    rw [List.length_map]
    cases ns with
    | nil => exact ⟨_, _, rfl, rfl, _, rfl, iteN (by decide) k⟩
    | cons n ns =>
      refine ⟨_, _, rfl, rfl, _, rfl, ?_⟩
      rw [decide_eq_true (by rw [List.length_cons]; omega)]
      exact iteT ⟨_, rfl, p, T.C, dx, fs, _, rfl, hp, T.clC, T.nO, l1, q, _, 0, _, rfl, rfl, hq, atI_nat (j := 0) rfl, k⟩
theorem ok_contains (T : Txt K mg) : FnOk P w K mg base CX0 2 T.a_contains T.d_contains ["self", "x"] (sp_contains K T.C) := by
  refine T.F_contains.ok sc_contains (fun vs H Q E h => ?_) (fun cdv A outer s H vs Q E hr h => ?_)
  · obtain ⟨p, ns, i, rfl, _⟩ := h
    rfl
  · obtain ⟨p, ns, i, rfl, ⟨dx, fs, q, hp, l1, l2, hq⟩, few, k⟩ := h
    refine ⟨_, (pss_one (ps_ret (pe_and (pe_call (ok_is_whole T) (hr.mono (by decide)) (by rfl) T.g_is_whole T.F_is_whole.kp T.b_is_whole .nil pass0 (pa_cons (pv 1) pa_nil)) (pe_one (pe_cmpR op_in_seq (pv 1) (pe_fld (pv 0) rfl) rfl))))), ?_⟩
    refine ⟨_, rfl, .int i, some i, rfl, .int i, _, rfl, ?_⟩
    refine iteT ⟨_, rfl, _, rfl, p, T.C, dx, fs, _, rfl, hp, T.clC, T.nO, l1, q, _, rfl, .inr hq, rfl, flat_ints ns, ?_⟩
    rw [in_ints]
    exact k
end
end K15

namespace K15
open PySem L2 Wm TL Dv
section
variable {P : Program} {w : World} {K : PySem.W.Frag} {mg : Str → Option Value} {base : Heap}
theorem StrAt.keep {C : Addr} {H H' : Hp} {p : Addr} {ns : List Int} (h : StrAt K C H p ns) (s : Same H H') : StrAt K C H' p ns := by
  obtain ⟨dx, fs, q, hp, l1, l2, hq⟩ := h
  exact ⟨dx, fs, q, s _ _ hp, l1, l2, sameT s hq⟩
theorem ok_init (T : Txt K mg) : FnOk P w K mg base CX0 3 T.a_init T.d_init ["self", "offsets"] (sp_init K T.C) := by
  refine T.F_init.ok sc_init (fun vs H Q E h => ?_) (fun cdv A outer s H vs Q E hr h => ?_)
  · obtain ⟨p, dx, x, t, xs, rfl, _⟩ := h
    rfl
  · obtain ⟨p, dx, x, t, xs, rfl, hp, hx, lo, few, k⟩ := h
    refine ⟨_, (pss_cons (ps_for (passes_of rfl) rfl (Kd.pi_seq (pv 1)) (pg_name (i := 2) sc_init.nd rfl (Or.inl rfl))
        (pss_one (ps_expr (pe_call (ok_check_offset T) (hr.mono (by decide)) (by rfl) T.g_check_offset T.F_check_offset.kp T.b_check_offset .nil pass0 (pa_cons (pv 2) pa_nil)))))
      (pss_one (ps_fld (pv 0) (pe_callTy call_tuple_of (by rfl) T.z_tuple (by decide +kernel) (pa_cons (pe_callB (Sa.cr_sortedSetA (by rfl)) (by rfl) T.z_sorted (by decide +kernel) (pa_cons (pe_callTy (Si.call_set (by rfl)) (by rfl) T.z_set (by decide +kernel) (pa_cons (pv 1) pa_nil)) pa_nil)) pa_nil)) rfl))), ?_⟩
    refine ⟨_, rfl, x, _, t, rfl, hx, fun J G wk hG => ?_⟩
    refine for_it wk (fun _ σ H' => ∃ v, σ = [some (.ref p), some (.ref x), v] ∧ H' = H) ⟨none, rfl, rfl⟩ (fun _ σ H' _ h => let ⟨_, _, e⟩ := h; e ▸ hG _ hx) (fun i y σ H1 H2 hi hP hY => ?_) (fun σ H1 hP => ?_)
    · obtain ⟨v, rfl, rfl⟩ := hP
      obtain ⟨rfl, hy⟩ := hY
      rw [List.getElem?_map] at hy
      obtain ⟨n, hn, rfl⟩ := Option.map_eq_some_iff.mp hy
      exact ⟨_, rfl, n, rfl, lo n (List.mem_of_getElem? hn), _, rfl, rfl⟩
    · obtain ⟨v, rfl, rfl⟩ := hP
      refine ⟨_, rfl, x, xs, rfl, hx.sq, by omega, fun S c hc hS => ?_⟩
      have s1 := same_new (o := SetO w S (fun y => decide (y ∈ xs)) c) hS
      refine ⟨S, _, c, rfl, upd_same, by omega, fun ls l up mem len hl => ?_⟩
      have s2 := s1.trans (same_new (o := .lst (ls.map V.int)) hl)
      refine ⟨l, _, rfl, .inl ⟨SqL.of upd_same, fun q hq => ?_⟩⟩
      have s3 := s2.trans (same_new (o := .tup (ls.map V.int)) hq)
      have hq3 : upd (upd (upd H1 S (SetO w S (fun y => decide (y ∈ xs)) c)) l (.lst (ls.map V.int))) q (.tup (ls.map V.int)) q = some (.tup (ls.map V.int)) := upd_same
      have hp4 := s3 _ _ hp
      have nq : q ≠ p := (ne_of_none (s2 _ _ hp) hq).symm
      refine ⟨_, rfl, p, T.C, dx, [], rfl, hp4, T.clC, T.nO, by show 0 < 1000; decide, ?_⟩
      refine k _ ls (fun a o na e => by rw [upd_ne na]; exact s3 _ _ e) ⟨up, fun j => (mem j).trans decide_eq_true_iff⟩ (by omega) ⟨dx, _, q, upd_same, ?_, fun m hm => ?_, ?_⟩
      · rfl
      · show List.lookup m [(("offsets" : Str), V.ref q)] = none
        rw [List.lookup_cons, beq_eq_false_iff_ne.mpr hm]
        rfl
      · exact SqT.of (by rw [upd_ne nq]; exact hq3)
theorem Off.sort {xs ns : List Int} (h : IsSort xs ns) (lo : ∀ n ∈ xs, 0 ≤ n) (few : ns.length < 1000) : Off ns := ⟨h.1, fun n m => lo n ((h.2 n).mp m), few⟩
end
end K15

namespace K15
open PySem L2 Wm TL Dv
section
variable {P : Program} {w : World} {K : PySem.W.Frag} {mg : Str → Option Value} {base : Heap}
theorem made {H : Hp} {p dx C : Addr} (hp : H p = none) (hd : H dx = none) (ne : dx ≠ p) : Same H (upd (upd H dx (.own p)) p (.ins C dx [])) :=
  (same_new hd).trans (same_new (by rw [upd_ne (Ne.symm ne)]; exact hp))
theorem made_off {H H' : Hp} {p dx C : Addr} (hp : H p = none) (hd : H dx = none) (ne : dx ≠ p) (off : ∀ q o, q ≠ p → upd (upd H dx (.own p)) p (.ins C dx []) q = some o → H' q = some o) : Same H H' :=
  fun q o e => off q o (ne_of_none e hp) (made hp hd ne q o e)
theorem ok_swithin (T : Txt K mg) : FnOk P w K mg base CX0 1 T.a_swithin T.d_swithin ["self", "other"] (sp_swithin K T.C) := by
  refine T.F_swithin.ok sc_swithin (fun vs H Q E h => ?_) (fun cdv A outer s H vs Q E hr h => ?_)
  · obtain ⟨p, q, ns, ms, rfl, _⟩ := h
    rfl
  · obtain ⟨p, p2, ns, ms, rfl, ⟨dx, fs, q, hp, l1, l2, hq⟩, O1, ⟨dx2, fs2, q2, hp2, m1, m2, hq2⟩, O2, k⟩ := h
    have f1 := O1.few
    have f2 := O2.few
    refine ⟨_, (pss_one (ps_ret (pe_cmpR op_eq (pe_callB So.call_lenSet (by rfl) T.z_len (by decide +kernel) (pa_cons (pe_op So.op_sub (pe_callTy (Si.call_set (by rfl)) (by rfl) T.z_set (by decide +kernel) (pa_cons (pe_fld (pv 0) rfl) pa_nil)) (pe_callTy (Si.call_set (by rfl)) (by rfl) T.z_set (by decide +kernel) (pa_cons (pe_fld (pv 1) rfl) pa_nil))) pa_nil)) pe_int (nomark _)))), ?_⟩
    refine ⟨_, rfl, p, T.C, dx, fs, _, rfl, hp, T.clC, T.nO, l1, q, ns, rfl, .inr hq, by omega, fun S1 c1 hc1 hS1 => ?_⟩
    have s1 := same_new (o := SetO w S1 (fun y => decide (y ∈ ns)) c1) hS1
    refine ⟨_, rfl, p2, T.C, dx2, fs2, _, rfl, s1 _ _ hp2, T.clC, T.nO, m1, q2, ms, rfl, .inr (sameT s1 hq2), by omega, fun S2 c2 hc2 hS2 => ?_⟩
    have s2 := same_new (o := SetO w S2 (fun y => decide (y ∈ ms)) c2) hS2
    have e1 := s2 _ _ (show upd H S1 (SetO w S1 (fun y => decide (y ∈ ns)) c1) S1 = some (SetO w S1 (fun y => decide (y ∈ ns)) c1) from upd_same)
    refine ⟨S1, S2, _, _, c1, c2, rfl, rfl, ne_of_none upd_same hS2, e1, upd_same, by omega, by omega, fun p3 c3 hc3 hp3 => ?_⟩
    refine ⟨p3, _, c3, rfl, upd_same, by omega, fun cz => ?_⟩
    have e : decide (V.int (c3 : Nat) = V.int 0) = decide (∀ k ∈ ns, k ∈ ms) := by
      refine decide_eq_decide.mpr ⟨fun z j mj => ?_, fun z => ?_⟩
      · have c0 : c3 = 0 := by have := V.int.inj z; omega
        have := cz.mp c0 j
        simpa [mj] using this
      · have c0 : c3 = 0 := cz.mpr fun j => by
          by_cases mj : j ∈ ns
          · simp [mj, z j mj]
          · simp [mj]
        rw [c0]
        rfl
    refine ⟨rfl, ?_⟩
    rw [e]
    exact k _ ((s1.trans s2).trans (same_new hp3))
theorem Off.nodup {ns : List Int} (O : Off ns) : ns.Nodup := O.up.imp fun h => Int.ne_of_lt h
theorem ok_sub (T : Txt K mg) : FnOk P w K mg base CX0 5 T.a_sub T.d_sub ["self", "other"] (sp_sub K T.C) := by
  refine T.F_sub.ok sc_sub (fun vs H Q E h => ?_) (fun cdv A outer s H vs Q E hr h => ?_)
  · obtain ⟨p, q, ns, ms, rfl, _⟩ := h
    rfl
  · obtain ⟨p, p2, ns, ms, rfl, ⟨dx, fs, q, hp, l1, l2, hq⟩, O1, ⟨dx2, fs2, q2, hp2, m1, m2, hq2⟩, O2, k⟩ := h
    have f1 := O1.few
    have f2 := O2.few
    refine ⟨_, (pss_one (ps_ret (pe_make T.mk_init (ok_init T) (hr.mono (by decide)) (by rfl) T.gC T.b_init .nil pass0 (pa_cons (pe_callB (Sa.cr_sortedSetA (by rfl)) (by rfl) T.z_sorted (by decide +kernel) (pa_cons (pe_op So.op_sub (pe_callTy (Si.call_set (by rfl)) (by rfl) T.z_set (by decide +kernel) (pa_cons (pe_fld (pv 0) rfl) pa_nil)) (pe_callTy (Si.call_set (by rfl)) (by rfl) T.z_set (by decide +kernel) (pa_cons (pe_fld (pv 1) rfl) pa_nil))) pa_nil)) pa_nil)))), ?_⟩
    refine ⟨_, rfl, p, T.C, dx, fs, _, rfl, hp, T.clC, T.nO, l1, q, ns, rfl, .inr hq, by omega, fun S1 c1 hc1 hS1 => ?_⟩
    have s1 := same_new (o := SetO w S1 (fun y => decide (y ∈ ns)) c1) hS1
    refine ⟨_, rfl, p2, T.C, dx2, fs2, _, rfl, s1 _ _ hp2, T.clC, T.nO, m1, q2, ms, rfl, .inr (sameT s1 hq2), by omega, fun S2 c2 hc2 hS2 => ?_⟩
    have s2 := same_new (o := SetO w S2 (fun y => decide (y ∈ ms)) c2) hS2
    have e1 := s2 _ _ (show upd H S1 (SetO w S1 (fun y => decide (y ∈ ns)) c1) S1 = some (SetO w S1 (fun y => decide (y ∈ ns)) c1) from upd_same)
    refine ⟨S1, S2, _, _, c1, c2, rfl, rfl, ne_of_none upd_same hS2, e1, upd_same, by omega, by omega, fun p3 c3 hc3 hp3 => ?_⟩
    refine ⟨p3, _, c3, rfl, upd_same, by omega, fun ls l up mem len hl => ?_⟩
    have s4 := ((s1.trans s2).trans (same_new hp3)).trans (same_new (o := .lst (ls.map V.int)) hl)
    refine fun x dy hx hdy ne => ?_
    have sm := made (C := T.C) hx hdy ne
    have lq := sm l _ upd_same
    refine ⟨x, dy, l, false, ls, rfl, upd_same, Kd.Is.lst (SqL.of lq), fun n mn => ?_, by omega, fun H' ns2 off so le sA => ⟨rfl, ?_⟩⟩
    · exact O1.lo n (show n ∈ ns ∧ n ∉ ms by simpa using (mem n).mp mn).1
    have e1 := up_eq so.1 up so.2
    have e2 : ls = subL ns ms := up_eq up (O1.up.filter _) fun j => by
      rw [mem j]
      unfold subL
      rw [List.mem_filter]
      simp
    subst e1
    rw [e2] at sA
    exact k _ x (s4.trans (made_off hx hdy ne off)) (s4.free hx) sA
theorem ok_cut (T : Txt K mg) : FnOk P w K mg base CX0 5 T.a_cut T.d_cut ["self", "end"] (sp_cut K T.C) := by
  refine T.F_cut.ok sc_cut (fun vs H Q E h => ?_) (fun cdv A outer s H vs Q E hr h => ?_)
  · obtain ⟨p, ns, e, rfl, _⟩ := h
    rfl
  · obtain ⟨p, ns, e, rfl, ⟨dx, fs, q, hp, l1, l2, hq⟩, O, k⟩ := h
    have few := O.few
    refine ⟨_, (pss_one (ps_ret (pe_make T.mk_init (ok_init T) (hr.mono (by decide)) (by rfl) T.gC T.b_init .nil pass0 (pa_cons (pe_lc (own := [("offset", 2)]) (g := gName 2) rfl sc_cut.nd (pi_tup (pe_fld (pv 0) rfl)) (blkOk_by (own := [("offset", 2)]) (N := nm_cut) (sc := (defScope s_cut)) (by decide +kernel)) (fun _ _ _ _ _ => pg_name (i := 2) sc_cut.nd rfl (Or.inl rfl)) (fun _ _ _ _ _ => (pts_one (pt_cmpR op_lt (pv 2) (pv 1) (nomark _)))) (fun _ _ _ _ _ => (pv 2))) pa_nil)))), ?_⟩
    refine ⟨_, rfl, p, T.C, dx, fs, _, rfl, hp, T.clC, T.nO, l1, q, rfl, ⟨_, hq⟩, fun D hD => ?_⟩
    refine lc_tup (xs := ns.map V.int) (fun j A => Same H A ∧ A D = some (.lst (((ns.take j).filter fun k => decide (k < e)).map V.int))) ⟨same_new hD, upd_same⟩ (fun j A _ hP => sameT hP.1 hq) (fun j z A hz hP => ?_) (fun H1 hP => ?_)
    · obtain ⟨sm, hL⟩ := hP
      rw [List.getElem?_map] at hz
      obtain ⟨n, hn, rfl⟩ := Option.map_eq_some_iff.mp hz
      have le : ((ns.take j).filter fun k => decide (k < e)).length ≤ ns.length := Nat.le_trans (List.length_filter_le _ _) (by rw [List.length_take]; omega)
      refine ⟨rfl, _, rfl, _, rfl, _, _, rfl, rfl, _, rfl, ite2 (fun c => ?_) (fun c => ?_)⟩
      · refine ⟨_, rfl, _, hL, by rw [List.length_map]; exact small1000 (by omega), same_mut sm hD, ?_⟩
        rw [upd_same, tk_succ hn, List.filter_append, List.map_append, List.filter_cons, if_pos c]
        rfl
      · refine ⟨sm, ?_⟩
        rw [tk_succ hn, List.filter_append, List.filter_cons, if_neg c, List.filter_nil, List.append_nil]
        exact hL
    · obtain ⟨sm, hL⟩ := hP
      rw [List.length_map, List.take_length] at hL
      refine fun x dy hx hdy ne => ?_
      have m1 := made (C := T.C) hx hdy ne
      have le : (ns.filter fun k => decide (k < e)).length ≤ ns.length := List.length_filter_le _ _
      refine ⟨x, dy, D, false, _, rfl, upd_same, Kd.Is.lst (SqL.of (m1 _ _ hL)), fun n mn => O.lo n (List.mem_filter.mp mn).1, by omega, fun H' ns2 off so le sA => ⟨rfl, ?_⟩⟩
      have e := up_eq so.1 (O.up.filter _) so.2
      subst e
      exact k _ x (sm.trans (made_off hx hdy ne off)) (sm.free hx) sA
end
end K15

namespace K15
open PySem L2 Wm TL Dv
section
variable {P : Program} {w : World} {K : PySem.W.Frag} {mg : Str → Option Value} {base : Heap}
theorem small_len {n : Nat} (h : n ≤ 100000) : n ≤ sizeLine := by
  have : (100000 : Nat) ≤ sizeLine := by decide
  omega
theorem sum_cast : ∀ ds : List Nat, (ds.map fun (d : Nat) => (d : Int)).sum = ((ds.sum : Nat) : Int)
  | [] => rfl
  | d :: ds => by
    rw [List.map_cons, List.sum_cons, List.sum_cons, sum_cast ds]
    omega
def letters (t : Str) : List Bool := (tl t).map fun c => decide (c ∈ ("123456789" : Str).cps.toList)
theorem letters_all {t : Str} : (letters t).all id = true ↔ ∀ c ∈ tl t, c ∈ ("123456789" : Str).cps.toList := by
  unfold letters
  rw [List.all_map, List.all_eq_true]
  constructor
  · intro h c m
    exact of_decide_eq_true (h c m)
  · intro h c m
    exact decide_eq_true (h c m)
theorem cps_at {t : Str} {i c : Nat} (h : t.cps[i]? = some c) : (tl t)[i]? = some c := by
  rw [← h]
  exact Array.getElem?_toList ..
theorem ok_is_number (T : Txt K mg) : FnOk P w K mg base CX0 1 T.a_is_number T.d_is_number ["thing"] (sp_is_number K) := by
  refine T.F_is_number.ok sc_is_number (fun vs H Q E h => ?_) (fun cdv A outer s H vs Q E hr h => ?_)
  · obtain ⟨x, d, rfl, _⟩ := h
    rfl
  · obtain ⟨x, d, rfl, ob, kx⟩ := h
    obtain ⟨n, b0, ty, k1, k2, k3⟩ := tys_of ob
    refine ⟨_, (pss_cons (ps_if (PW.pt (pw_or (pt_not (pt_val (pe_callB call_isi (by rfl) T.z_isinstance (by decide +kernel) (pa_cons (pv 0) (pa_cons (pe_bltn (v := V.ty "str") (by rfl) T.z_str (by decide +kernel) rfl) pa_nil))))) (pw_or1 (pt_not (pt_chain op_le op_le pe_int (pe_callB call_len_str (by rfl) T.z_len PySem.boot_len (pa_cons (pv 0) pa_nil)) (pe_glob (v := V.int 4) rfl T.c_MOST_DIGITS ⟨_, rfl⟩))))))
        (pss_one (ps_ret pe_bl))
        pss_nil)
      (pss_cons (ps_if (pt_not (pt_val (pe_callB (cr_all rfl) (by rfl) T.z_all (by decide +kernel) (pa_cons (pe_lc (own := [("letter", 1)]) (g := gName 1) (tt := tYes) rfl sc_is_number.nd (pi_str (pv 0)) (blkOk_by (own := [("letter", 1)]) (N := nm_is_number) (sc := (defScope s_is_number)) (by decide +kernel)) (fun _ _ _ _ _ => pg_name (i := 1) sc_is_number.nd rfl (Or.inl rfl)) (fun _ _ _ _ _ => pts_nil) (fun _ _ _ _ _ => (pe_cmpR op_in_sign (pv 1) (pe_glob (v := V.str "123456789") rfl T.c_DIGITS ⟨_, rfl⟩) rfl))) pa_nil))))
        (pss_one (ps_ret pe_bl))
        pss_nil)
      (pss_one (ps_ret (pe_cmpR op_le (pe_callB (cr_sum rfl) (by rfl) T.z_sum (by decide +kernel) (pa_cons (pe_lc (own := [("letter", 1)]) (g := gName 1) (tt := tYes) rfl sc_is_number.nd (pi_str (pv 0)) (blkOk_by (own := [("letter", 1)]) (N := nm_is_number) (sc := (defScope s_is_number)) (by decide +kernel)) (fun _ _ _ _ _ => pg_name (i := 1) sc_is_number.nd rfl (Or.inl rfl)) (fun _ _ _ _ _ => pts_nil) (fun _ _ _ _ _ => (pe_callTy call_int_str (by rfl) T.z_int (by decide +kernel) (pa_cons (pv 1) pa_nil)))) pa_nil)) (pe_glob (v := V.int 24) rfl T.c_GREATEST_SUM ⟨_, rfl⟩) (nomark _)))))), ?_⟩
    refine ⟨_, rfl, _, _, _, _, b0, rfl, .ty "str", ty, k1, b0, rfl, ?_⟩
    cases b0 with
    | false =>
      refine iteT ?_
      refine iteT ?_
      exact kx _ _ (Same.refl _) ⟨fun z => (by cases z), fun z => absurd z (k3 rfl)⟩
    | true =>
    refine iteF ?_
    obtain ⟨t, rfl, _, tx⟩ := k2 rfl
    have hz : t.length ≤ 100000 := Nat.le_trans tx.len (by decide)
    have k : ∀ H' b, Same H H' → (b = true ↔ IsNum t) → Q (.bl b) H' := fun H' b s e => kx H' b s (e.trans isN_str.symm)
    have hl : t.length = (tl t).length := len_tl t
    have numlen : IsNum t → 1 ≤ t.length ∧ t.length ≤ 4 := fun ⟨ds, N, e⟩ => by
      rw [e, numS_len]
      exact ⟨N.pos, N.len⟩
    refine ⟨_, rfl, _, rfl, small_len hz, _, _, rfl, rfl, _, rfl, ?_⟩
    refine ite2 (fun c1 => ?_) (fun c1 => ?_)
    case refine_2 =>
      have c1' : ¬ (1 : Int) ≤ (t.length : Nat) := fun z => c1 (decide_eq_true z)
      refine ⟨false, rfl, iteT ?_⟩
      exact k _ _ (Same.refl _) ⟨fun z => (by cases z), fun z => absurd (numlen z).1 (by omega)⟩
    have c1' : (1 : Int) ≤ (t.length : Nat) := of_decide_eq_true c1
    refine ⟨_, _, rfl, rfl, _, rfl, ?_⟩
    by_cases c2 : ((t.length : Nat) : Int) ≤ 4
    case neg =>
      rw [decide_eq_false c2]
      refine iteT ?_
      exact k _ _ (Same.refl _) ⟨fun z => (by cases z), fun z => absurd (numlen z).2 (by omega)⟩
    rw [decide_eq_true c2]
    refine iteF ?_
    refine ⟨_, rfl, _, rfl, fun D hD => ?_⟩
    have hsz : t.cps.size = (tl t).length := hl
    refine lc_it walk_str (fun i H' => Same H H' ∧ H' D = some (.lst (((letters t).take i).map V.bl))) ⟨same_new hD, upd_same⟩ (fun _ _ _ _ => trivial) (fun i x H1 H' hi hP hY => ?_) (fun H1 hP => ?_)
    · obtain ⟨sm, hL⟩ := hP
      obtain ⟨rfl, c, hc, rfl⟩ := hY
      have hc2 : (letters t)[i]? = some (decide (c ∈ ("123456789" : Str).cps.toList)) := by
        unfold letters
        rw [List.getElem?_map, cps_at hc]
        rfl
      refine ⟨rfl, yesT ?_⟩
      refine ⟨_, rfl, _, _, rfl, rfl, _, hL, by rw [List.length_map, List.length_take]; exact small1000 (by omega), ?_⟩
      refine ⟨same_mut sm hD, ?_⟩
      rw [upd_same, take_succ_map _ hc2]
    · obtain ⟨sm, hL⟩ := hP
      have ell : (letters t).length = t.cps.size := by unfold letters; rw [List.length_map, hsz]
      rw [← ell, List.take_length] at hL
      refine ⟨D, letters t, rfl, SqL.of hL, _, rfl, ?_⟩
      by_cases c3 : (letters t).all id = true
      case neg =>
        rw [Bool.not_eq_true] at c3
        rw [c3]
        refine iteT ?_
        refine k _ _ sm ⟨fun z => (by cases z), fun ⟨ds, N, e⟩ => ?_⟩
        have q := letters_all.mpr (by rw [e]; exact num_codes N.dig : ∀ c ∈ tl t, c ∈ ("123456789" : Str).cps.toList)
        rw [c3] at q
        cases q
      rw [c3]
      refine iteF ?_
      obtain ⟨ds, dig, et⟩ := dig_text t (letters_all.mp c3)
      subst et
      rw [numS_len] at c1' c2
      refine ⟨_, rfl, _, rfl, fun D2 hD2 => ?_⟩
      refine lc_it walk_str (fun i H' => Same H H' ∧ H' D2 = some (.lst ((ds.take i).map fun (d : Nat) => V.int (d : Int)))) ⟨sm.trans (same_new hD2), upd_same⟩ (fun _ _ _ _ => trivial) (fun i x H2 H' hi hP hY => ?_) (fun H2 hP => ?_)
      · obtain ⟨sm2, hl2⟩ := hP
        obtain ⟨rfl, c, hc, rfl⟩ := hY
        rw [numS_size] at hi
        rw [numS_at ds i hi] at hc
        have hc' := (Option.some.inj hc).symm
        subst hc'
        refine ⟨rfl, yesT ?_⟩
        refine ⟨_, rfl, _, _, rfl, dig_int (dig _ (List.getElem_mem hi)), (by show 1 ≤ 640; decide), _, hl2, by rw [List.length_map, List.length_take]; exact small1000 (by omega), ?_⟩
        refine ⟨same_mut sm2 (sm.free hD2), ?_⟩
        rw [upd_same, take_succ_map _ (List.getElem?_eq_getElem hi)]
      · obtain ⟨sm2, hl2⟩ := hP
        rw [numS_size, List.take_length] at hl2
        refine ⟨D2, ds.map fun (d : Nat) => (d : Int), rfl, SqL.of (by rw [hl2, List.map_map]; rfl), _, _, rfl, rfl, ?_⟩
        rw [sum_cast]
        refine k _ _ sm2 ?_
        rw [isnum_dig]
        constructor
        · intro z
          have z' : ((ds.sum : Nat) : Int) ≤ 24 := of_decide_eq_true z
          exact ⟨by omega, by omega, dig, by omega⟩
        · intro N
          exact decide_eq_true (show ((ds.sum : Nat) : Int) ≤ 24 by have := N.sum; omega)
end
end K15

namespace K15
open PySem L2 Wm TL Dv
section
variable {P : Program} {w : World} {K : PySem.W.Frag} {mg : Str → Option Value} {base : Heap}
theorem ok_check_number (T : Txt K mg) : FnOk P w K mg base (L2.CX P w) 3 T.a_check_number T.d_check_number ["thing"] (sp_check_number K T.CN) := by
  refine T.F_check_number.okX sc_check_number (fun vs H Q E h => ?_) (fun cdv A outer s H vs Q E hr h => ?_)
  · obtain ⟨x, d, rfl, _⟩ := h
    rfl
  · obtain ⟨x, d, rfl, ob, kS, kE⟩ := h
    refine ⟨_, (pss_one (ps_if (pt_not (pt_val (pe_call (ok_is_number T) (hr.mono (by decide)) (by rfl) T.g_is_number T.F_is_number.kp T.b_is_number .nil pass0 (pa_cons (pv 0) pa_nil))))
        (pss_one (ps_raiseLow rfl T.low hr (takes_of rfl rfl rfl rfl) (by exact (pa_cons (pv 0) pa_nil))))
        pss_nil)), ?_⟩
    refine ⟨_, rfl, x, d, rfl, ob, fun H1 b s1 hb => ⟨b, rfl, ?_⟩⟩
    cases b with
    | true => exact iteF (kS (hb.mp rfl) _ s1)
    | false =>
      refine iteT ?_
      exact ⟨_, rfl, _, rfl, fun dd hdd => kE (fun z => by have := hb.mpr z; cases this) _ dd (s1.trans (same_new hdd)) upd_same⟩
theorem ok_blocks (T : Txt K mg) : FnOk P w K mg base (L2.CX P w) 4 T.a_blocks T.d_blocks ["number"] (sp_blocks K T.CN) := by
  refine T.F_blocks.okX sc_blocks (fun vs H Q E h => ?_) (fun cdv A outer s H vs Q E hr h => ?_)
  · obtain ⟨x, d, rfl, _⟩ := h
    rfl
  · obtain ⟨x, d, rfl, ob, kS, kE⟩ := h
    refine ⟨_, (pss_cons (ps_expr (pe_callS (ok_check_number T) (hr.mono (by decide)) rfl T.g_check_number T.F_check_number.kp T.b_check_number (fun σ => passAt (takes_of rfl rfl rfl rfl) σ) (by exact (pa_cons (pv 0) pa_nil))))
      (pss_one (ps_ret (pe_callTy call_tuple_of (by rfl) T.z_tuple (by decide +kernel) (pa_cons (pe_lc (own := [("letter", 1)]) (g := gName 1) (tt := tYes) rfl sc_blocks.nd (pi_str (pv 0)) (blkOk_by (own := [("letter", 1)]) (N := nm_blocks) (sc := (defScope s_blocks)) (by decide +kernel)) (fun _ _ _ _ _ => pg_name (i := 1) sc_blocks.nd rfl (Or.inl rfl)) (fun _ _ _ _ _ => pts_nil) (fun _ _ _ _ _ => (pe_callTy call_int_str (by rfl) T.z_int (by decide +kernel) (pa_cons (pv 1) pa_nil)))) pa_nil))))), ?_⟩
    refine ⟨_, rfl, x, d, rfl, ob, fun isn H1 s1 => ?_, fun n => kE n⟩
    obtain ⟨ds, N, rfl⟩ := isn
    have k := kS ds N rfl
    have hlen := N.len
    refine ⟨_, rfl, _, rfl, fun D hD => ?_⟩
    refine lc_it walk_str (fun i H' => Same H1 H' ∧ H' D = some (.lst ((ds.take i).map fun (d : Nat) => V.int (d : Int)))) ⟨same_new hD, upd_same⟩ (fun _ _ _ _ => trivial) (fun i x H2 H' hi hP hY => ?_) (fun H2 hP => ?_)
    · obtain ⟨sm2, hl2⟩ := hP
      obtain ⟨rfl, c, hc, rfl⟩ := hY
      rw [numS_size] at hi
      rw [numS_at ds i hi] at hc
      have hc' := (Option.some.inj hc).symm
      subst hc'
      refine ⟨rfl, yesT ?_⟩
      refine ⟨_, rfl, _, _, rfl, dig_int (N.dig _ (List.getElem_mem hi)), (by show 1 ≤ 640; decide), _, hl2, by rw [List.length_map, List.length_take]; exact small1000 (by omega), ?_⟩
      refine ⟨same_mut sm2 hD, ?_⟩
      rw [upd_same, take_succ_map _ (List.getElem?_eq_getElem hi)]
    · obtain ⟨sm2, hl2⟩ := hP
      rw [numS_size, List.take_length] at hl2
      refine ⟨D, _, rfl, .inl ⟨SqL.of hl2, fun p hp => ?_⟩⟩
      exact k _ p ((s1.trans sm2).trans (same_new hp)) ((s1.trans sm2).free hp) upd_same
theorem ok_row_of (T : Txt K mg) : FnOk P w K mg base (L2.CX P w) 5 T.a_row_of T.d_row_of ["number"] (sp_row_of K T.CN) := by
  refine T.F_row_of.okX sc_row_of (fun vs H Q E h => ?_) (fun cdv A outer s H vs Q E hr h => ?_)
  · obtain ⟨x, d, rfl, _⟩ := h
    rfl
  · obtain ⟨x, d, rfl, ob, kS, kE⟩ := h
    refine ⟨_, (pss_cons (ps_set (i := 1) sc_row_of.nd rfl (Or.inl rfl) (pe_lst pa_nil))
      (pss_cons (ps_for (passes_of rfl) rfl (pi_tup (pe_callS (ok_blocks T) (hr.mono (by decide)) rfl T.g_blocks T.F_blocks.kp T.b_blocks (fun σ => passAt (takes_of rfl rfl rfl rfl) σ) (by exact (pa_cons (pv 0) pa_nil)))) (pg_name (i := 2) sc_row_of.nd rfl (Or.inl rfl))
        (pss_cons (ps_expr (pe_bm PySem.F.plainAttrs_list PySem.F.slot_list_extend PySem.F.type_list_extend mt_extend (pv 1) (pa_cons (pe_op op_rep (pe_lst (pa_cons pe_int (pa_cons pe_int pa_nil))) (pv 2)) pa_nil)))
        (pss_one (ps_expr (pe_bm PySem.F.plainAttrs_list PySem.F.slot_list_extend PySem.F.type_list_extend mt_extend (pv 1) (pa_cons (pe_lst (pa_cons pe_int (pa_cons pe_int pa_nil))) pa_nil))))))
      (pss_cons (ps_expr (pe_bm PySem.F.plainAttrs_list PySem.F.slot_list_extend PySem.F.type_list_extend mt_extend (pv 1) (pa_cons (pe_lst (pa_cons pe_int (pa_cons pe_int pa_nil))) pa_nil)))
      (pss_one (ps_ret (pe_callTy call_tuple_of (by rfl) T.z_tuple (by decide +kernel) (pa_cons (pv 1) pa_nil))))))), ?_⟩
    refine ⟨Nat.zero_le _, fun r hr0 => ?_⟩
    refine ⟨_, rfl, x, d, rfl, ob.keep (same_new hr0), fun ds N e H1 t s1 ht0 ht => ?_, fun n => (kE n).after (same_new hr0)⟩
    subst e
    have k := kS ds N rfl
    have hlen := N.len
    have hrt : r ≠ t := fun e => by
      rw [e] at hr0
      have := ne_of_none (upd_same (H := H) (a := r) (o := .lst [])) ht0
      exact this e
    have hr1 : H1 r = some (.lst []) := s1 _ _ upd_same
    have sH : Same H H1 := (same_new hr0).trans s1
    refine ⟨t, rfl, ⟨_, SqT.of ht⟩, ?_⟩
    refine for_tup (xs := ds.map fun (d : Nat) => V.int (d : Int)) (fun i σ H2 => ∃ v, σ = [some (.str (numS ds)), some (.ref r), v] ∧ Same H H2 ∧ H2 t = some (.tup (ds.map fun (d : Nat) => V.int (d : Int))) ∧ H2 r = some (.lst ((Wm.pre (ds.take i)).map V.int)))
      ⟨_, rfl, sH, ht, hr1⟩ (fun i σ H2 _ hP => ?_) (fun i x σ H2 hx hP => ?_) (fun σ H2 hP => ?_)
    · obtain ⟨v, rfl, _, h2, _⟩ := hP
      exact SqT.of h2
    · obtain ⟨v, rfl, sm, h2, h3⟩ := hP
      have hi : i < ds.length := by
        have := (List.getElem?_eq_some_iff.mp hx).1
        rw [List.length_map] at this
        exact this
      have ex : x = .int (ds[i] : Nat) := by
        rw [List.getElem?_map, List.getElem?_eq_getElem hi] at hx
        exact (Option.some.inj hx).symm
      subst ex
      have hd := N.dig _ (List.getElem_mem hi)
      have hp9 := pre_le (ds.take i) fun d m => (N.dig d (List.mem_of_mem_take m)).2
      rw [List.length_take] at hp9
      have hrn : H r = none := hr0
      -- row.extend([1, 0] * strokes)
      refine ⟨.ref r, rfl, .inl ⟨rfl, _, SqL.of h3⟩, by decide, fun a ha => ?_⟩
      refine ⟨_, rfl, a, _, _, rfl, rfl, upd_same, by omega, by omega, by rw [Int.toNat_natCast]; show 2 * ds[i] ≤ _; exact Nat.le_of_lt (small1000 (by omega)), fun b hb => ?_⟩
      rw [Int.toNat_natCast, blk_V]
      have ra : r ≠ a := ne_of_none h3 ha
      have rb : r ≠ b := ne_of_none (at_old h3 ha) hb
      refine ⟨r, b, _, _, rfl, rfl, at_old (at_old h3 ha) hb, upd_same, ?_, ?_⟩
      · rw [List.length_map, List.length_map, blk_len]
        exact Nat.le_of_lt (small1000 (by omega))
      -- row.extend([0, 0])
      have h4 : upd (upd (upd H2 a (.lst [.int 1, .int 0])) b (.lst ((blk ds[i]).map V.int))) r (.lst ((Wm.pre (ds.take i)).map V.int ++ (blk ds[i]).map V.int)) r = some (.lst ((Wm.pre (ds.take i)).map V.int ++ (blk ds[i]).map V.int)) := upd_same
      refine ⟨.ref r, rfl, .inl ⟨rfl, _, SqL.of h4⟩, by decide, fun c hc => ?_⟩
      refine ⟨r, c, _, _, rfl, rfl, at_old h4 hc, upd_same, ?_, ?_⟩
      · rw [List.length_append, List.length_map, List.length_map, blk_len]
        exact Nat.le_of_lt (small1000 (by simp only [List.length_cons, List.length_nil]; omega))
      refine ⟨_, rfl, ?_, ?_, ?_⟩
      · have s2 : Same H2 (upd (upd H2 a (.lst [.int 1, .int 0])) b (.lst ((blk ds[i]).map V.int))) := (same_new ha).trans (same_new hb)
        have s3 : Same H (upd (upd (upd H2 a (.lst [.int 1, .int 0])) b (.lst ((blk ds[i]).map V.int))) r (.lst ((Wm.pre (ds.take i)).map V.int ++ (blk ds[i]).map V.int))) := same_mut (sm.trans s2) hrn
        exact same_mut (s3.trans (same_new hc)) hrn
      · rw [upd_ne hrt.symm]
        refine at_old ?_ hc
        rw [upd_ne hrt.symm]
        exact at_old (at_old h2 ha) hb
      · rw [upd_same, take_succ_app (List.getElem?_eq_getElem hi), pre_app]
        simp only [List.map_append, List.append_assoc]
        rfl
    · obtain ⟨v, rfl, sm, h2, h3⟩ := hP
      rw [List.length_map, List.take_length] at h3
      have hp9 := pre_le ds fun d m => (N.dig d m).2
      refine ⟨.ref r, rfl, .inl ⟨rfl, _, SqL.of h3⟩, by decide, fun a ha => ?_⟩
      refine ⟨r, a, _, _, rfl, rfl, at_old h3 ha, upd_same, ?_, ?_⟩
      · rw [List.length_map]
        exact Nat.le_of_lt (small1000 (by simp only [List.length_cons, List.length_nil]; omega))
      refine ⟨.ref r, rfl, r, _, rfl, .inl ⟨SqL.of upd_same, fun p hp => ?_⟩⟩
      have s2 : Same H (upd (upd H2 a (.lst [.int 0, .int 0])) r (.lst ((Wm.pre ds).map V.int ++ [.int 0, .int 0]))) := same_mut (sm.trans (same_new ha)) hr0
      refine k _ p (s2.trans (same_new hp)) (s2.free hp) ?_
      rw [upd_same, ← pre_row ds, List.map_append]
      rfl
theorem ok_length_of (T : Txt K mg) : FnOk P w K mg base (L2.CX P w) 5 T.a_length_of T.d_length_of ["number"] (sp_length_of K T.CN) := by
  refine T.F_length_of.okX sc_length_of (fun vs H Q E h => ?_) (fun cdv A outer s H vs Q E hr h => ?_)
  · obtain ⟨x, d, rfl, _⟩ := h
    rfl
  · obtain ⟨x, d, rfl, ob, kS, kE⟩ := h
    refine ⟨_, (pss_cons (ps_set (i := 1) sc_length_of.nd rfl (Or.inl rfl) (pe_callS (ok_blocks T) (hr.mono (by decide)) rfl T.g_blocks T.F_blocks.kp T.b_blocks (fun σ => passAt (takes_of rfl rfl rfl rfl) σ) (by exact (pa_cons (pv 0) pa_nil))))
      (pss_one (ps_ret (pe_op op_mul pe_int (pe_op op_add (pe_op op_add (pe_callB (Hf.cr_sumA rfl) (by rfl) T.z_sum (by decide +kernel) (pa_cons (pv 1) pa_nil)) (pe_callB call_len_seq (by rfl) T.z_len PySem.boot_len (pa_cons (pv 1) pa_nil))) pe_int))))), ?_⟩
    refine ⟨_, rfl, x, d, rfl, ob, fun ds N e H1 p s1 p0 hp => ?_, fun n => kE n⟩
    subst e
    have k := kS ds N rfl
    have hlen := N.len
    have hs := N.sum
    refine ⟨_, rfl, p, ds.map fun (d : Nat) => (d : Int), rfl, .inr (SqT.of (by rw [hp, List.map_map]; rfl)), ?_⟩
    rw [sum_cast]
    refine ⟨_, rfl, p, _, rfl, .inr (SqT.of hp), _, _, rfl, rfl, _, _, rfl, rfl, 2, _, rfl, rfl, .inl ⟨by decide, by decide⟩, ?_⟩
    have e : (2 : Int) * (((ds.sum : Nat) : Int) + (((ds.map fun (d : Nat) => V.int (d : Int)).length : Nat) : Int) + 1) = (((rowL ds).length : Nat) : Int) := by
      rw [row_sum, List.length_map]
      omega
    show Q (V.int ((2 : Int) * (((ds.sum : Nat) : Int) + (((ds.map fun (d : Nat) => V.int (d : Int)).length : Nat) : Int) + 1))) H1
    rw [e]
    exact k _ s1
end
end K15

namespace K15
open PySem L2 Wm TL Dv
section
variable {P : Program} {w : World} {K : PySem.W.Frag} {mg : Str → Option Value} {base : Heap}
theorem cut_some (ns : List Int) (hi : Option Int) : ∃ m, cutV (ns.map V.int) none hi = (ns.take m).map V.int := by
  refine ⟨HT.sIx (ns.map V.int).length (ns.map V.int).length hi - HT.sIx (ns.map V.int).length 0 none, ?_⟩
  unfold cutV
  rw [HT.sIx_none, List.drop_zero, List.map_take]
theorem ok_bag (T : Txt K mg) : FnOk P w K mg base CX0 1 T.a_bag T.d_bag ["_law_script"] (sp_bag K) := by
  refine T.F_bag.ok sc_bag (fun vs H Q E h => ?_) (fun cdv A outer s H vs Q E hr h => ?_)
  · obtain ⟨a, ns, rfl, _⟩ := h
    rfl
  · obtain ⟨a, ns, rfl, hS, hlen, k⟩ := h
    refine ⟨_, (pss_cons (ps_setLc (i := 1) (own := [("_law_cell", 2)]) (g := gName 2) (tt := tYes) rfl sc_bag.nd rfl rfl (sw_true rfl rfl rfl (by decide +kernel)) (pi_list (pe_slice sl_list (pv 0) po_none (po_some pe_int))) (blkOk_by (own := [("_law_cell", 2)]) (N := nm_bag) (sc := (defScope s_bag)) (by decide +kernel)) (fun _ _ _ _ _ => pg_name (i := 2) sc_bag.nd rfl (Or.inl rfl)) (fun _ _ _ _ _ => pts_nil) (fun _ _ _ _ _ => (pe_ifExp (pt_cmpR op_ge (pv 2) pe_int (nomark _)) (pv 2) (pe_op op_sub pe_int (pv 2)))))
      (pss_one (ps_ret (pe_lst (pa_cons pe_int (pa_cons (pv 1) (pa_cons pe_int (pa_cons pe_int (pa_cons pe_int pa_nil))))))))), ?_⟩
    refine ⟨.ref a, rfl, 63, rfl, a, _, rfl, hS, fun p hp => ?_⟩
    obtain ⟨m, em⟩ := cut_some ns (some 63)
    rw [em]
    have hml : (ns.take m).length ≤ 63 := by rw [List.length_take]; omega
    generalize ns.take m = ms at hml
    refine ⟨p, rfl, ⟨_, SqL.of upd_same⟩, fun D hD => ?_⟩
    refine lc_list (xs := ms.map V.int) (fun i H' => Same (upd H p (.lst (ms.map V.int))) H' ∧ ∃ qs : List Int, qs.length = i ∧ H' D = some (.lst (qs.map V.int))) ⟨same_new hD, [], rfl, upd_same⟩ (fun i H2 _ hP => SqL.of (hP.1 _ _ upd_same)) (fun i x H2 hx hP => ?_) (fun H2 hP => ?_)
    · obtain ⟨sm, qs, eq, hq⟩ := hP
      have hi : i < ms.length := by
        have := (List.getElem?_eq_some_iff.mp hx).1
        rw [List.length_map] at this
        exact this
      have ex : x = .int ms[i] := by
        rw [List.getElem?_map, List.getElem?_eq_getElem hi] at hx
        exact (Option.some.inj hx).symm
      subst ex
      have small : (qs.map V.int).length < sizeLine := by rw [List.length_map]; exact small1000 (by omega)
      refine ⟨rfl, yesT ?_⟩
      refine ⟨_, rfl, _, _, rfl, rfl, _, rfl, ite2 (fun _ => ?_) (fun _ => ?_)⟩
      · exact ⟨_, rfl, _, hq, small, same_mut sm hD, qs ++ [ms[i]], by rw [List.length_append, eq]; rfl, by rw [upd_same, List.map_append]; rfl⟩
      · exact ⟨_, rfl, _, _, rfl, rfl, _, hq, small, same_mut sm hD, qs ++ [1 - ms[i]], by rw [List.length_append, eq]; rfl, by rw [upd_same, List.map_append]; rfl⟩
    · obtain ⟨sm, qs, eq, hq⟩ := hP
      refine ⟨_, rfl, by show 5 ≤ sizeLine; decide, fun b hb => ?_⟩
      refine k _ b (((same_new hp).trans sm).trans (same_new hb)) ⟨D, 0, 0, 0, 20261, qs, upd_same, at_old hq hb, by decide, by decide, by decide⟩
end
end K15

namespace K15
open PySem L2 Wm TL Dv
section
variable {P : Program} {w : World} {K : PySem.W.Frag} {mg : Str → Option Value} {base : Heap}
theorem fmod_in {x l : Int} (h : 0 < l) : 0 ≤ x.fmod l ∧ x.fmod l < l := by
  rw [Int.fmod_eq_emod_of_nonneg x (Int.le_of_lt h)]
  exact ⟨Int.emod_nonneg x (by omega), Int.emod_lt_of_pos x h⟩
theorem ok_draw (T : Txt K mg) : FnOk P w K mg base CX0 1 T.a_draw T.d_draw ["_law_bag_here", "_law_limit"] (sp_draw K) := by
  refine T.F_draw.ok sc_draw (fun vs H Q E h => ?_) (fun cdv A outer s H vs Q E hr h => ?_)
  · obtain ⟨b, n, lim, rfl, _⟩ := h
    rfl
  · obtain ⟨b, n, lim, rfl, l0, l1, ⟨c, x, k, m, z, ns, hb, hc, k0, m0, mn⟩, hn, kk⟩ := h
    have hcb := bag_ne hb hc
    refine ⟨_, (C8.pss_cut (ps_if (PW.pt (pw_and (pt_cmpR op_lt (pe_ix ix_list (pv 0) pe_int (fun _ _ => rfl)) (pe_op op_pow pe_int pe_int) (nomark _)) (pw_and1 (pt_cmpR op_lt (pe_ix ix_list (pv 0) pe_int (fun _ _ => rfl)) (pe_callB call_len_seq (by rfl) T.z_len PySem.boot_len (pa_cons (pe_ix ix_list (pv 0) pe_int (fun _ _ => rfl)) pa_nil)) (nomark _)))))
        (pss_cons (ps_asg (pe_ix ix_list (pe_ix ix_list (pv 0) pe_int (fun _ _ => rfl)) (pe_ix ix_list (pv 0) pe_int (fun _ _ => rfl)) (fun _ _ => rfl)) (pg_sub (pv 0) pe_int set_list))
        (pss_one (ps_asg (pe_op op_add (pe_ix ix_list (pv 0) pe_int (fun _ _ => rfl)) pe_int) (pg_sub (pv 0) pe_int set_list))))
        pss_nil)
      (pss_cons (ps_if (pt_cmpR op_ge (pe_ix ix_list (pv 0) pe_int (fun _ _ => rfl)) (pe_op op_pow pe_int pe_int) (nomark _))
        (pss_cons (ps_set (i := 2) sc_draw.nd rfl (Or.inl rfl) (pe_op op_modN (pe_callTy call_int1 (by rfl) T.z_int (by decide +kernel) (pa_cons (pe_ix ix_list (pv 0) pe_int (fun _ _ => rfl)) pa_nil)) (pv 1)))
        (pss_cons (ps_asg (pe_op op_fdivW (pe_callTy call_int1 (by rfl) T.z_int (by decide +kernel) (pa_cons (pe_ix ix_list (pv 0) pe_int (fun _ _ => rfl)) pa_nil)) (pv 1)) (pg_sub (pv 0) pe_int set_list))
        (pss_one (ps_ret (pv 2)))))
        pss_nil)
      (pss_cons (ps_asg (pe_op op_add (pe_ix ix_list (pv 0) pe_int (fun _ _ => rfl)) pe_int) (pg_sub (pv 0) pe_int set_list))
      (pss_cons (ps_asg (pe_op op_modN (pe_callTy call_int1 (by rfl) T.z_int (by decide +kernel) (pa_cons (pe_op op_add (pe_op op_add (pe_op op_mul (pe_ix ix_list (pv 0) pe_int (fun _ _ => rfl)) pe_int) (pe_op op_mul (pe_op op_modN (pe_callTy call_int1 (by rfl) T.z_int (by decide +kernel) (pa_cons (pe_ix ix_list (pv 0) pe_int (fun _ _ => rfl)) pa_nil)) pe_int) pe_int)) (pe_op op_mul (pe_ix ix_list (pv 0) pe_int (fun _ _ => rfl)) pe_int)) pa_nil)) pe_int) (pg_sub (pv 0) pe_int set_list))
      (pss_one (ps_ret (pe_op op_modN (pe_op op_fdivN (pe_op op_modN (pe_callTy call_int1 (by rfl) T.z_int (by decide +kernel) (pa_cons (pe_op op_add (pe_op op_mul (pe_ix ix_list (pv 0) pe_int (fun _ _ => rfl)) pe_int) (pe_op op_mul (pe_ix ix_list (pv 0) pe_int (fun _ _ => rfl)) (pe_ix ix_list (pv 0) pe_int (fun _ _ => rfl)))) pa_nil)) pe_int) pe_int) (pv 1)))))))), ?_⟩
    refine ⟨fun σ H1 => ∃ x k : Int, σ = [some (.ref b), some (.int lim), none] ∧ 0 ≤ k ∧ But b H H1 ∧ H1 b = some (.lst [.int x, .ref c, .int k, .int m, .int z]), ?_, ?_⟩
    · refine ⟨_, rfl, b, _, 0, _, rfl, rfl, SqL.of hb, atI_nat (j := 0) rfl, _, _, rfl, rfl, ⟨by decide, by decide, by decide⟩, _, _, rfl, rfl, _, rfl, ite2 (fun h1 => ?_) (fun h1 => ?_)⟩
      · refine ⟨_, rfl, b, _, 2, _, rfl, rfl, SqL.of hb, atI_nat (j := 2) rfl, _, rfl, b, _, 1, _, rfl, rfl, SqL.of hb, atI_nat (j := 1) rfl, c, _, rfl, .inl (SqL.of hc), _, _, rfl, rfl, _, rfl, ite2 (fun h2 => ?_) (fun h2 => ?_)⟩
        · have h3 := of_decide_eq_true h2
          rw [List.length_map] at h3
          have h4 : k.toNat < ns.length := by omega
          have g : (ns.map V.int)[k.toNat]? = some (.int ns[k.toNat]) := by rw [List.getElem?_map, List.getElem?_eq_getElem h4]; rfl
          refine ⟨_, rfl, b, _, 1, _, rfl, rfl, SqL.of hb, atI_nat (j := 1) rfl, _, rfl, b, _, 2, _, rfl, rfl, SqL.of hb, atI_nat (j := 2) rfl, c, _, k, _, rfl, rfl, SqL.of hc, at_of (by omega) g, ?_⟩
          refine ⟨_, rfl, b, _, 0, 0, rfl, rfl, hb, rfl, ?_⟩
          refine ⟨_, rfl, b, _, 2, _, rfl, rfl, SqL.of upd_same, atI_nat (j := 2) rfl, _, _, rfl, rfl, ?_⟩
          refine ⟨_, rfl, b, _, 2, 2, rfl, rfl, upd_same, rfl, ?_⟩
          exact ⟨_, _, rfl, by omega, But.trans (But.set hb) (But.set upd_same), upd_same⟩
        · exact ⟨x, k, rfl, k0, But.refl _ _, hb⟩
      · exact ⟨x, k, rfl, k0, But.refl _ _, hb⟩
    · rintro σ H1 ⟨x, k, rfl, k0, but, hb⟩
      have hc1 : H1 c = some (.lst (ns.map V.int)) := but _ _ hcb hc
      refine ⟨_, rfl, b, _, 0, _, rfl, rfl, SqL.of hb, atI_nat (j := 0) rfl, _, _, rfl, rfl, ⟨by decide, by decide, by decide⟩, _, _, rfl, rfl, _, rfl, ite2 (fun h1 => ?_) (fun h1 => ?_)⟩
      · refine ⟨_, rfl, b, _, 0, _, rfl, rfl, SqL.of hb, atI_nat (j := 0) rfl, .inl ⟨_, rfl, _, rfl, _, _, rfl, rfl, by omega, ?_⟩⟩
        refine ⟨_, rfl, b, _, 0, _, rfl, rfl, SqL.of hb, atI_nat (j := 0) rfl, .inl ⟨_, rfl, _, rfl, _, _, rfl, rfl, wide_div l0 (b := 100) (by omega) (by decide) (by decide), ?_⟩⟩
        refine ⟨_, rfl, b, _, 0, 0, rfl, rfl, hb, rfl, ?_⟩
        refine ⟨_, rfl, kk _ _ (fmod_in l0).1 (fmod_in l0).2 ⟨c, _, k, m, z, ns, upd_same, ?_, k0, m0, by omega⟩ (but.trans (But.set hb))⟩
        rw [upd_ne hcb]
        exact hc1
      · refine ⟨_, rfl, b, _, 3, _, rfl, rfl, SqL.of hb, atI_nat (j := 3) rfl, _, _, rfl, rfl, ?_⟩
        refine ⟨_, rfl, b, _, 3, 3, rfl, rfl, hb, rfl, ?_⟩
        -- the two reckonings
        refine ⟨_, rfl, b, _, 4, _, rfl, rfl, SqL.of upd_same, atI_nat (j := 4) rfl, _, _, rfl, rfl, .inr ⟨by decide, by decide⟩, ?_⟩
        refine ⟨_, rfl, b, _, 0, _, rfl, rfl, SqL.of upd_same, atI_nat (j := 0) rfl, .inl ⟨_, rfl, _, _, rfl, rfl, by omega, _, _, rfl, rfl, .inr ⟨by decide, by decide⟩, _, _, rfl, rfl, ?_⟩⟩
        refine ⟨_, rfl, b, _, 3, _, rfl, rfl, SqL.of upd_same, atI_nat (j := 3) rfl, _, _, rfl, rfl, .inr ⟨by decide, by decide⟩, _, _, rfl, rfl, .inl ⟨_, rfl, _, _, rfl, rfl, by omega, ?_⟩⟩
        refine ⟨_, rfl, b, _, 4, 4, rfl, rfl, upd_same, rfl, ?_⟩
        refine ⟨_, rfl, b, _, 4, _, rfl, rfl, SqL.of upd_same, atI_nat (j := 4) rfl, _, _, rfl, rfl, .inr ⟨by decide, by decide⟩, ?_⟩
        refine ⟨_, rfl, b, _, 3, _, rfl, rfl, SqL.of upd_same, atI_nat (j := 3) rfl, _, rfl, b, _, 3, _, rfl, rfl, SqL.of upd_same, atI_nat (j := 3) rfl, _, _, rfl, rfl, .inl ⟨by omega, by omega⟩, _, _, rfl, rfl, .inl ⟨_, rfl, _, _, rfl, rfl, by omega, _, _, rfl, rfl, ⟨by decide, by decide⟩, _, rfl, _, _, rfl, rfl, by omega, ?_⟩⟩
        refine kk _ _ (fmod_in l0).1 (fmod_in l0).2 ⟨c, x, k, m + 1, _, ns, upd_same, ?_, k0, by omega, by omega⟩ ((but.trans (But.set hb)).trans (But.set upd_same))
        rw [upd_ne hcb, upd_ne hcb]
        exact hc1
end
end K15

namespace K15
open PySem L2 Wm TL Dv
section
variable {P : Program} {w : World} {K : PySem.W.Frag} {mg : Str → Option Value} {base : Heap}
theorem dig_log {d : Nat} (h : 1 ≤ d ∧ d ≤ 9) : ((d : Int)).natAbs.log2 < 1920 := by
  rcases dig_cases h with e | e | e | e | e | e | e | e | e <;> subst e <;> decide +kernel
theorem top_at {way : Int} (h0 : 0 ≤ way) (h1 : way < 6) : ∃ top : Int, atI [V.int 3, V.int 3, V.int 3, V.int 3, V.int 9, V.int 9] way = some (.int top) ∧ 3 ≤ top ∧ top ≤ 9 := by
  have c : way = 0 ∨ way = 1 ∨ way = 2 ∨ way = 3 ∨ way = 4 ∨ way = 5 := by omega
  rcases c with e | e | e | e | e | e <;> subst e
  · exact ⟨3, rfl, by decide, by decide⟩
  · exact ⟨3, rfl, by decide, by decide⟩
  · exact ⟨3, rfl, by decide, by decide⟩
  · exact ⟨3, rfl, by decide, by decide⟩
  · exact ⟨9, rfl, by decide, by decide⟩
  · exact ⟨9, rfl, by decide, by decide⟩
theorem sum_snoc (ds : List Nat) (d : Nat) : (ds ++ [d]).sum = ds.sum + d := by
  rw [List.sum_append]
  simp
theorem len_snoc (ds : List Nat) (d : Nat) : (ds ++ [d]).length = ds.length + 1 := by simp
theorem dig_snoc {ds : List Nat} {d : Nat} (h : ∀ y ∈ ds, 1 ≤ y ∧ y ≤ 9) (g : 1 ≤ d ∧ d ≤ 9) : ∀ y ∈ ds ++ [d], 1 ≤ y ∧ y ≤ 9 := fun y m => by
  rcases List.mem_append.mp m with m | m
  · exact h y m
  · rw [List.mem_singleton.mp m]
    exact g
theorem ok_number (T : Txt K mg) : FnOk P w K mg base CX0 2 T.a_number T.d_number ["_law_bag_here"] (sp_number K) := by
  refine T.F_number.ok sc_number (fun vs H Q E h => ?_) (fun cdv A outer s H vs Q E hr h => ?_)
  · obtain ⟨b, n, rfl, _⟩ := h
    rfl
  · obtain ⟨b, n, rfl, hbag, hn, kk⟩ := h
    refine ⟨_, (pss_cons (ps_set (i := 1) sc_number.nd rfl (Or.inl rfl) (pe_op op_add pe_int (pe_call (ok_draw T) (hr.mono (by decide)) (by rfl) T.g_draw T.F_draw.kp T.b_draw .nil pass0 (pa_cons (pv 0) (pa_cons pe_int pa_nil)))))
      (pss_cons (ps_set (i := 2) sc_number.nd rfl (Or.inl rfl) (pe_call (ok_draw T) (hr.mono (by decide)) (by rfl) T.g_draw T.F_draw.kp T.b_draw .nil pass0 (pa_cons (pv 0) (pa_cons pe_int pa_nil))))
      (pss_cons (ps_set (i := 3) sc_number.nd rfl (Or.inl rfl) (pe_ix ix_list (pe_lst (pa_cons pe_int (pa_cons pe_int (pa_cons pe_int (pa_cons pe_int (pa_cons pe_int (pa_cons pe_int pa_nil))))))) (pv 2) (fun _ _ => rfl)))
      (pss_cons (ps_set (i := 4) sc_number.nd rfl (Or.inl rfl) pe_str)
      (pss_cons (ps_set (i := 5) sc_number.nd rfl (Or.inl rfl) pe_int)
      (pss_cons (ps_for PassesOwn.never rfl (pi_range1 (by rfl) T.z_range (pa_cons (pv 1) pa_nil)) (pg_name (i := 6) sc_number.nd rfl (Or.inl rfl))
        (pss_cons (ps_set (i := 7) sc_number.nd rfl (Or.inl rfl) (pe_op op_add pe_int (pe_call (ok_draw T) (hr.mono (by decide)) (by rfl) T.g_draw T.F_draw.kp T.b_draw .nil pass0 (pa_cons (pv 0) (pa_cons (pe_callB (call_min2 rfl) (by rfl) T.z_min (by decide +kernel) (pa_cons (pv 3) (pa_cons (pe_op op_sub (pv 5) (pe_op op_sub (pe_op op_sub (pv 1) pe_int) (pv 6))) pa_nil))) pa_nil)))))
        (C8.pss_cut (ps_if (PW.pt (pw_and (pt_cmpR op_eq (pv 2) pe_int (nomark _)) (pw_and1 (pt_cmpR op_eq (pv 6) (pe_op op_sub (pv 1) pe_int) (nomark _)))))
          (pss_one (ps_set (i := 7) sc_number.nd rfl (Or.inl rfl) (pe_callB (call_min2 rfl) (by rfl) T.z_min (by decide +kernel) (pa_cons pe_int (pa_cons (pv 5) pa_nil)))))
          pss_nil)
        (pss_cons (ps_set (i := 4) sc_number.nd rfl (Or.inl rfl) (pe_op op_add_str (pv 4) (pe_callTy call_str_int (by rfl) T.z_str (by decide +kernel) (pa_cons (pv 7) pa_nil))))
        (pss_one (ps_set (i := 5) sc_number.nd rfl (Or.inl rfl) (pe_op op_sub (pv 5) (pv 7))))))))
      (pss_one (ps_ret (pv 4))))))))), ?_⟩
    refine ⟨_, rfl, b, n, 4, rfl, by decide, by decide, hbag, by omega, fun H1 d1 g0 g1 bag1 but1 => ?_⟩
    refine ⟨_, _, rfl, rfl, ?_⟩
    refine ⟨_, rfl, b, n + 1, 6, rfl, by decide, by decide, bag1, by omega, fun H2 way w0 w1 bag2 but2 => ?_⟩
    obtain ⟨top, et, t3, t9⟩ := top_at w0 w1
    refine ⟨by show 6 ≤ sizeLine; decide, fun t ht => ?_⟩
    refine ⟨_, rfl, t, _, _, _, rfl, rfl, SqL.of upd_same, et, ?_⟩
    have bag3 := bag2.keep (same_new (o := .lst [V.int 3, V.int 3, V.int 3, V.int 3, V.int 9, V.int 9]) ht)
    have but3 : But b H (upd H2 t (.lst [V.int 3, V.int 3, V.int 3, V.int 3, V.int 9, V.int 9])) := (but1.trans but2).trans (But.of (same_new ht))
    obtain ⟨many, em⟩ : ∃ many : Nat, (1 : Int) + d1 = (many : Nat) := ⟨(1 + d1).toNat, by omega⟩
    try dsimp only
    rw [em]
    have m1 : 1 ≤ many := by omega
    have m4 : many ≤ 4 := by omega
    refine ⟨_, rfl, _, rfl, by omega, by omega, ?_⟩
    rw [Int.toNat_natCast]
    refine for_range (fun i σ H' => ∃ (ds : List Nat) (vk vd : Option V), σ = [some (.ref b), some (.int (many : Nat)), some (.int way), some (.int top), some (.str (numS ds)), some (.int (24 - (ds.sum : Nat))), vk, vd] ∧
      ds.length = i ∧ (∀ d ∈ ds, 1 ≤ d ∧ d ≤ 9) ∧ ds.sum + (many - i) ≤ 24 ∧ Bag H' b (n + 2 + i) ∧ But b H H')
      ⟨[], none, none, by rw [numS_nil]; rfl, rfl, fun _ m => absurd m (List.not_mem_nil), by show 0 + (many - 0) ≤ 24; omega, bag3, but3⟩ (fun i σ H' hi hP => ?_) (fun σ H' hP => ?_)
    · obtain ⟨ds, vk, vd, rfl, el, hd, hs, bag, but⟩ := hP
      have eL : ((24 : Int) - (ds.sum : Nat)) - ((many : Nat) - 1 - (0 + (i : Nat))) = ((24 - ds.sum - (many - 1 - i) : Nat) : Int) := by omega
      -- the digit's draw
      refine ⟨_, rfl, _, rfl, _, rfl, _, rfl, _, _, rfl, rfl, _, rfl, _, _, rfl, rfl, _, _, rfl, rfl, _, _, rfl, ?_⟩
      (try dsimp only; rw [eL])
      generalize hlim : (if ((24 - ds.sum - (many - 1 - i) : Nat) : Int) < top then ((24 - ds.sum - (many - 1 - i) : Nat) : Int) else top) = lim
      have lim1 : 1 ≤ lim ∧ lim ≤ 9 ∧ lim ≤ ((24 - ds.sum - (many - 1 - i) : Nat) : Int) := by
        rw [← hlim]
        split <;> omega
      refine ⟨b, n + 2 + i, lim, rfl, by omega, by omega, bag, by omega, fun H3 g q0 q1 bag4 but4 => ?_⟩
      refine ⟨_, _, rfl, rfl, ?_⟩
      refine ⟨fun σ H4 => ∃ d : Nat, σ = [some (.ref b), some (.int (many : Nat)), some (.int way), some (.int top), some (.str (numS ds)), some (.int (24 - (ds.sum : Nat))), some (.int (0 + (i : Nat))), some (.int (d : Nat))] ∧
        (1 ≤ d ∧ d ≤ 9) ∧ ds.sum + d + (many - 1 - i) ≤ 24 ∧ H4 = H3, ?_, ?_⟩
      · have mid : ∃ d : Nat, (1 : Int) + g = (d : Nat) ∧ (1 ≤ d ∧ d ≤ 9) ∧ ds.sum + d + (many - 1 - i) ≤ 24 := ⟨(1 + g).toNat, by omega, by omega, by omega⟩
        obtain ⟨d, ed, hd9, hsum⟩ := mid
        (try dsimp only; rw [ed])
        refine ⟨_, rfl, rfl, _, rfl, ite2 (fun c1 => ?_) (fun c1 => ?_)⟩
        · refine ⟨_, rfl, _, rfl, _, _, rfl, rfl, rfl, _, rfl, ite2 (fun c2 => ?_) (fun c2 => ?_)⟩
          · refine ⟨_, rfl, _, _, rfl, ?_⟩
            have e2 : (0 : Int) + (i : Nat) = (many : Nat) - 1 := V.int.inj (of_decide_eq_true c2)
            have q : ∃ e : Nat, (if ((24 : Int) - (ds.sum : Nat)) < 9 then ((24 : Int) - (ds.sum : Nat)) else 9) = (e : Nat) ∧ (1 ≤ e ∧ e ≤ 9) ∧ ds.sum + e + (many - 1 - i) ≤ 24 := by
              split
              · exact ⟨24 - ds.sum, by omega, by omega, by omega⟩
              · exact ⟨9, rfl, by omega, by omega⟩
            obtain ⟨e, ee, he9, hes⟩ := q
            (try dsimp only; rw [ee])
            exact ⟨e, rfl, he9, hes, rfl⟩
          · exact ⟨d, rfl, hd9, hsum, rfl⟩
        · exact ⟨d, rfl, hd9, hsum, rfl⟩
      · rintro σ H4 ⟨d, rfl, hd9, hsum, rfl⟩
        refine ⟨_, rfl, _, rfl, _, rfl, dig_log hd9, _, _, rfl, rfl, ?_, ?_⟩
        · rw [dig_str hd9, numS_len, numS_len]
          exact Nat.le_of_lt (small1000 (by show ds.length + 1 ≤ 1000; omega))
        rw [dig_str hd9, numS_app]
        refine ⟨_, rfl, _, rfl, _, _, rfl, rfl, ?_⟩
        have e3 : (24 : Int) - (ds.sum : Nat) - (d : Nat) = 24 - ((ds ++ [d]).sum : Nat) := by rw [sum_snoc]; omega
        (try dsimp only; rw [e3])
        exact ⟨ds ++ [d], _, _, rfl, by rw [len_snoc, el], dig_snoc hd hd9, by rw [sum_snoc]; omega, bag4, but.trans but4⟩
    · obtain ⟨ds, vk, vd, rfl, el, hd, hs, bag, but⟩ := hP
      refine ⟨_, rfl, kk _ ds ⟨by omega, by omega, hd, by omega⟩ (bag.mono (by omega)) but⟩
end
end K15

namespace K15
open PySem L2 Wm TL Dv
section
variable {P : Program} {w : World} {K : PySem.W.Frag} {mg : Str → Option Value} {base : Heap}
theorem SI_len (ds : List Nat) : (SI ds).length ≤ (rowL ds).length := by
  have : ∀ (xs : List Int) (o : Nat), (ones o xs).length ≤ xs.length := by
    intro xs
    induction xs with
    | nil => exact fun o => Nat.le_refl _
    | cons x xs ih =>
      intro o
      have := ih (o + 1)
      unfold ones
      split
      · rw [List.length_cons, List.length_cons]; omega
      · rw [List.length_cons]; omega
  unfold SI
  rw [List.length_map]
  exact this _ _
theorem SI_sum : ∀ (ds : List Nat) (f : Nat), (ones f (rowL ds)).length = ds.sum
  | [], f => rfl
  | d :: ds, f => by
    have e : ones f (rowL (d :: ds)) = ones f (blk d) ++ ones (f + 2 * d + 2) (rowL ds) := by
      show ones f (blk d ++ ([0, 0] ++ rowL ds)) = _
      rw [ones_app, ones_app, blk_len]
      rfl
    have b : ∀ d, (ones f (blk d)).length = d := by
      intro d
      induction d with
      | zero => rfl
      | succ d ih => rw [ones_blk, List.length_append, ih]; rfl
    rw [e, List.length_append, b, SI_sum ds, List.sum_cons]
theorem SI_off {ds : List Nat} (N : Num ds) : Off (SI ds) := ⟨SI_up ds, fun n m => (SI_lt m).1, by
  have := SI_sum ds 0
  unfold SI
  rw [List.length_map, this]
  have := N.sum
  omega⟩
/-- the strokes up to a tick -/
def SIt (ds : List Nat) (i : Nat) : List Int := (ones 0 ((rowL ds).take i)).map fun (k : Nat) => (k : Int)
theorem SIt_succ {ds : List Nat} {i : Nat} {z : Int} (h : (rowL ds)[i]? = some z) : SIt ds (i + 1) = SIt ds i ++ (if z = 1 then [(i : Int)] else []) := by
  have hi := (List.getElem?_eq_some_iff.mp h).1
  unfold SIt
  rw [tk_succ h, ones_app, List.map_append, List.length_take, Nat.min_eq_left (by omega), Nat.zero_add]
  congr 1
  unfold ones
  by_cases c : z = 1
  · rw [if_pos c, if_pos c]; rfl
  · rw [if_neg c, if_neg c]; rfl
theorem SIt_all (ds : List Nat) : SIt ds (rowL ds).length = SI ds := by unfold SIt SI; rw [List.take_length]
theorem SIt_len (ds : List Nat) (i : Nat) : (SIt ds i).length ≤ (rowL ds).length := by
  have : ∀ (xs : List Int) (o : Nat), (ones o xs).length ≤ xs.length := by
    intro xs
    induction xs with
    | nil => exact fun o => Nat.le_refl _
    | cons x xs ih =>
      intro o
      have := ih (o + 1)
      unfold ones
      split
      · rw [List.length_cons, List.length_cons]; omega
      · rw [List.length_cons]; omega
  unfold SIt
  rw [List.length_map]
  refine Nat.le_trans (this _ _) ?_
  rw [List.length_take]
  omega
theorem ok_strokes_of (T : Txt K mg) : FnOk P w K mg base (L2.CX P w) 6 T.a_strokes_of T.d_strokes_of ["number"] (sp_strokes_of K T.C T.CN) := by
  refine T.F_strokes_of.okX sc_strokes_of (fun vs H Q E h => ?_) (fun cdv A outer s H vs Q E hr h => ?_)
  · obtain ⟨x, d, rfl, _⟩ := h
    rfl
  · obtain ⟨x, d, rfl, ob, k, er⟩ := h
    refine ⟨_, (pss_one (ps_ret (pe_make T.mk_init (ok_init T) (hr.mono (by decide)) (by rfl) T.gC T.b_init .nil pass0 (pa_cons (pe_lc (own := [("offset", 1), ("sign", 2)]) (g := gTup K 2 (gCons (gName 1) (gCons (gName 2) (gNil)))) rfl sc_strokes_of.nd (Es.pi_ent (by rfl) T.z_enumerate (pa_cons (pe_callS (ok_row_of T) (hr.mono (by decide)) rfl T.g_row_of T.F_row_of.kp T.b_row_of (fun σ => passAt (takes_of rfl rfl rfl rfl) σ) (by exact (pa_cons (pv 0) pa_nil))) pa_nil)) (blkOk_by (own := [("offset", 1), ("sign", 2)]) (N := nm_strokes_of) (sc := (defScope s_strokes_of)) (by decide +kernel)) (fun _ _ _ _ _ => (pg_tup rfl (pgs_cons (pg_name (i := 1) sc_strokes_of.nd rfl (Or.inl rfl)) (pgs_cons (pg_name (i := 2) sc_strokes_of.nd rfl (Or.inl rfl)) pgs_nil)))) (fun _ _ _ _ _ => (pts_one (pt_cmpR op_eq (pv 2) pe_int (nomark _)))) (fun _ _ _ _ _ => (pv 1))) pa_nil)))), ?_⟩
    refine ⟨_, rfl, x, d, rfl, ob, fun ds N e H1 t s1 t0 ht => ?_, fun n => er n⟩
    have k := k ds N e
    have rl := row_le ds N
    refine ⟨t, _, rfl, SqT.of ht, fun D hD => ?_⟩
    refine lc_it Es.walk_ent (fun i A => Same H1 A ∧ A D = some (.lst ((SIt ds i).map V.int))) ⟨same_new hD, upd_same⟩ (fun i A _ hP => SqT.of (hP.1 _ _ ht)) (fun i y A A' hi hP hY => ?_) (fun A hP => ?_)
    · obtain ⟨sm, hL⟩ := hP
      obtain ⟨tp, x1, x2, rfl, htp, rfl, e1, e2⟩ := hY
      cases e1
      have e2 : ((rowL ds).map V.int)[i]? = some x2 := e2
      rw [List.getElem?_map] at e2
      obtain ⟨z, hz, rfl⟩ := Option.map_eq_some_iff.mp e2
      have sB : Same H1 (upd A tp (.tup [.int (i : Nat), V.int z])) := sm.trans (same_new htp)
      have hL2 := at_old (u := .tup [.int (i : Nat), V.int z]) hL htp
      have su := SIt_succ hz
      have le := SIt_len ds i
      refine ⟨tp, _, rfl, SqT.of upd_same, rfl, _, _, rfl, _, _, rfl, rfl, rfl, ?_⟩
      generalize upd A tp (.tup [.int (i : Nat), V.int z]) = B at *
      refine ⟨_, rfl, rfl, _, rfl, ite2 (fun c => ?_) (fun c => ?_)⟩
      · have z1 : z = 1 := V.int.inj (of_decide_eq_true c)
        refine ⟨_, rfl, _, hL2, by rw [List.length_map]; exact small1000 (by omega), same_mut sB hD, ?_⟩
        rw [upd_same, su, if_pos z1, List.map_append]
        rfl
      · have z1 : z ≠ 1 := fun q => c (decide_eq_true (by rw [q]))
        refine ⟨sB, ?_⟩
        rw [su, if_neg z1, List.append_nil]
        exact hL2
    · obtain ⟨sm, hL⟩ := hP
      rw [List.length_map, SIt_all] at hL
      refine fun x2 dy hx hdy ne => ?_
      have m1 := made (C := T.C) hx hdy ne
      have O := SI_off N
      refine ⟨x2, dy, D, false, SI ds, rfl, upd_same, Kd.Is.lst (SqL.of (m1 _ _ hL)), O.lo, by have := O.few; omega, fun H' ns2 off so le sA => ⟨rfl, ?_⟩⟩
      have e := up_eq so.1 (SI_up ds) so.2
      subst e
      exact k _ x2 ((s1.trans sm).trans (made_off hx hdy ne off)) ((s1.trans sm).free hx) sA
end
end K15

namespace K15
open PySem L2 Wm TL Dv
section
variable {P : Program} {w : World} {K : PySem.W.Frag} {mg : Str → Option Value} {base : Heap}
theorem drop_new {H : Hp} {it : Addr} {o : HO} (h : H it = none) : ItX.dropH (upd H it o) it = H := by
  funext b
  by_cases c : b = it
  · rw [c, ItX.dropH_same, h]
  · rw [ItX.dropH_ne c, upd_ne c]
theorem patL_succ (ds : List Nat) (n : Nat) : patL ds (n + 1) = patL ds n ++ (SI ds).map fun k => (n : Int) * ((rowL ds).length : Nat) + k := by
  unfold patL
  rw [List.range_succ, List.flatMap_append, List.flatMap_singleton]
theorem patL_zero (ds : List Nat) : patL ds 0 = [] := rfl
theorem patL_one (ds : List Nat) : patL ds 1 = SI ds := by
  rw [patL_succ, patL_zero, List.nil_append]
  have : ∀ k : Int, ((0 : Nat) : Int) * ((rowL ds).length : Nat) + k = k := fun k => by simp
  simp only [this]
  exact List.map_id _
theorem SI_lens {ds : List Nat} (N : Num ds) : (SI ds).length = ds.sum := by
  unfold SI
  rw [List.length_map, SI_sum]
theorem patL_lt {ds : List Nat} : ∀ (n : Nat) {k : Int}, k ∈ patL ds n → 0 ≤ k ∧ k < (n : Int) * ((rowL ds).length : Nat)
  | 0, k, h => by rw [patL_zero] at h; cases h
  | n + 1, k, h => by
    rw [patL_succ] at h
    have hm : ((n + 1 : Nat) : Int) * ((rowL ds).length : Nat) = (n : Int) * ((rowL ds).length : Nat) + ((rowL ds).length : Nat) := by
      rw [Int.natCast_add, Int.add_mul]
      simp
    have h0 : 0 ≤ (n : Int) * ((rowL ds).length : Nat) := Int.mul_nonneg (by omega) (by omega)
    rcases List.mem_append.mp h with z | z
    · have := patL_lt n z
      omega
    · obtain ⟨c, mc, rfl⟩ := List.mem_map.mp z
      have := SI_lt mc
      omega
theorem patL_up {ds : List Nat} : ∀ n : Nat, (patL ds n).Pairwise (· < ·)
  | 0 => by rw [patL_zero]; exact .nil
  | n + 1 => by
    rw [patL_succ]
    refine List.pairwise_append.mpr ⟨patL_up n, ?_, fun a ma b mb => ?_⟩
    · rw [List.pairwise_map]
      exact (SI_up ds).imp fun h => by omega
    · obtain ⟨c, mc, rfl⟩ := List.mem_map.mp mb
      have := patL_lt n ma
      have := (SI_lt mc).1
      omega
theorem patL_len {ds : List Nat} (N : Num ds) (n : Nat) : (patL ds n).length = n * (SI ds).length := by
  induction n with
  | zero => rw [patL_zero]; simp
  | succ n ih => rw [patL_succ, List.length_append, List.length_map, ih, Nat.succ_mul]
theorem patL_off {ds : List Nat} (N : Num ds) {n : Nat} (hn : n ≤ 40) : Off (patL ds n) := ⟨patL_up n, fun k m => (patL_lt n m).1, by
  rw [patL_len N, SI_lens N]
  have := N.sum
  have h : n * ds.sum ≤ 40 * 24 := Nat.mul_le_mul hn this
  omega⟩
theorem patL_add (ds : List Nat) (m : Nat) : ∀ e : Nat, patL ds (m + e) = patL ds m ++ (patL ds e).map (· + (m : Int) * ((rowL ds).length : Nat))
  | 0 => by simp [patL_zero]
  | e + 1 => by
    rw [← Nat.add_assoc, patL_succ, patL_add ds m e, patL_succ, List.map_append, List.append_assoc, List.map_map]
    congr 2
    refine List.map_congr_left fun k _ => ?_
    show ((m + e : Nat) : Int) * ((rowL ds).length : Nat) + k = (e : Int) * ((rowL ds).length : Nat) + k + (m : Int) * ((rowL ds).length : Nat)
    rw [Int.natCast_add, Int.add_mul]
    omega
end
end K15

namespace K15
open PySem L2 Wm TL Dv
section
variable {P : Program} {w : World} {K : PySem.W.Frag} {mg : Str → Option Value} {base : Heap}
theorem cutL_off {e : Int} {ns : List Int} (O : Off ns) : Off (cutL e ns) := ⟨O.up.filter _, fun k m => O.lo k (List.mem_filter.mp m).1, Nat.lt_of_le_of_lt (List.length_filter_le _ _) O.few⟩
theorem subL_off {ns ms : List Int} (O : Off ns) : Off (subL ns ms) := ⟨O.up.filter _, fun k m => O.lo k (List.mem_filter.mp m).1, Nat.lt_of_le_of_lt (List.length_filter_le _ _) O.few⟩
theorem ok_step_back (T : Txt K mg) : FnOk P w K mg base (L2.CX P w) 7 T.a_step_back T.d_step_back ["number", "pattern"] (sp_step_back K T.C T.CN) := by
  refine T.F_step_back.okX sc_step_back (fun vs H Q E h => ?_) (fun cdv A outer s H vs Q E hr h => ?_)
  · obtain ⟨x, d, p, ns, rfl, _⟩ := h
    rfl
  · obtain ⟨x, d, p, ns, rfl, ob, hS, O, kS, kE⟩ := h
    refine ⟨_, (pss_cons (ps_set (i := 2) sc_step_back.nd rfl (Or.inl rfl) (pe_callS (ok_length_of T) (hr.mono (by decide)) rfl T.g_length_of T.F_length_of.kp T.b_length_of (fun σ => passAt (takes_of rfl rfl rfl rfl) σ) (by exact (pa_cons (pv 0) pa_nil))))
      (pss_one (ps_ret (pe_prop (pe_op (Ow.op_bin T.sf T.h_sub T.i_sub ((ok_sub T).raw T.b_sub .nil) (hr.mono (by decide)) pass0) (pe_meth (pv 1) T.clC T.m_cut (ok_cut T) (hr.mono (by decide)) T.b_cut .nil pass0 (pa_cons (pv 2) pa_nil)) (pe_callS (ok_strokes_of T) (hr.mono (by decide)) rfl T.g_strokes_of T.F_strokes_of.kp T.b_strokes_of (fun σ => passAt (takes_of rfl rfl rfl rfl) σ) (by exact (pa_cons (pv 0) pa_nil)))) T.clC T.pr (ok_lowest T) (hr.mono (by decide)) T.b_lowest .nil pass0 rfl)))), ?_⟩
    refine ⟨_, rfl, x, d, rfl, ob, fun ds N e H1 s1 => ?_, fun m => kE m⟩
    subst e
    have hS1 := hS.keep s1
    obtain ⟨dx, fs, q, hp, l1, l2, hq⟩ := id hS1
    refine ⟨_, rfl, p, dx, fs, rfl, hp, l2 _ (by decide), _, rfl, p, ns, _, rfl, hS1, O, fun H2 c s2 f2 hC => ?_⟩
    refine ⟨_, rfl, _, _, rfl, ob_num N, fun ds' N' e' H3 t s3 f3 hT => ?_, fun m => absurd ⟨ds, N, rfl⟩ m⟩
    obtain rfl := numS_inj (V.str.inj e')
    have hC3 := hC.keep s3
    obtain ⟨dx3, fs3, q3, hp3, _, _, _⟩ := id hC3
    obtain ⟨dx4, fs4, q4, hp4, _, _, _⟩ := id hT
    refine ⟨c, dx3, fs3, t, dx4, fs4, rfl, rfl, hp3, hp4, c, t, _, _, rfl, hC3, cutL_off O, hT, SI_off N, fun H4 r s4 f4 hR => ?_⟩
    obtain ⟨dx5, fs5, q5, hp5, _, m5, _⟩ := id hR
    refine ⟨r, dx5, fs5, rfl, hp5, r, _, rfl, hR, by have := (subL_off (ms := SI ds) (cutL_off (e := ((rowL ds).length : Nat)) O)).few; omega, ?_⟩
    exact kS ds N rfl _ (((s1.trans s2).trans s3).trans s4)
theorem cutO_off {o : Option Int} {ns : List Int} (O : Off ns) : Off (cutO o ns) := by
  cases o with
  | none => exact O
  | some e => exact cutL_off O
theorem cutO_len {o : Option Int} {ns : List Int} : (cutO o ns).length ≤ ns.length := by
  cases o with
  | none => exact Nat.le_refl _
  | some e => exact List.length_filter_le _ _
theorem ok_head_of (T : Txt K mg) : FnOk P w K mg base (L2.CX P w) 8 T.a_head_of T.d_head_of ["number", "pattern"] (sp_head_of K T.C T.CN) := by
  refine T.F_head_of.okX sc_head_of (fun vs H Q E h => ?_) (fun cdv A outer s H vs Q E hr h => ?_)
  · obtain ⟨x, d, p, ns, rfl, _⟩ := h
    rfl
  · obtain ⟨x, d, p, ns, rfl, ob, hS, O, kS, kE⟩ := h
    refine ⟨_, (pss_cons (ps_set (i := 2) sc_head_of.nd rfl (Or.inl rfl) (pe_callS (ok_strokes_of T) (hr.mono (by decide)) rfl T.g_strokes_of T.F_strokes_of.kp T.b_strokes_of (fun σ => passAt (takes_of rfl rfl rfl rfl) σ) (by exact (pa_cons (pv 0) pa_nil))))
      (pss_cons (ps_set (i := 3) sc_head_of.nd rfl (Or.inl rfl) (pe_callS (ok_step_back T) (hr.mono (by decide)) rfl T.g_step_back T.F_step_back.kp T.b_step_back (fun σ => passAt (takes_of rfl rfl rfl rfl) σ) (by exact (pa_cons (pv 0) (pa_cons (pv 1) pa_nil)))))
      (C8.pss_cut (ps_set (i := 4) sc_head_of.nd rfl (Or.inl rfl) (pe_ifExp (pt_cmpR op_isN (pv 3) pe_non (nomark _)) (pv 2) (pe_meth (pv 2) T.clC T.m_cut (ok_cut T) (hr.mono (by decide)) T.b_cut .nil pass0 (pa_cons (pv 3) pa_nil))))
      (pss_one (ps_ret (pe_ifExp (pt_val (pe_meth (pv 4) T.clC T.m_swithin (ok_swithin T) (hr.mono (by decide)) T.b_swithin .nil pass0 (pa_cons (pv 1) pa_nil))) (pv 4) (pe_make0 T.mk_init (ok_init T) (hr.mono (by decide)) (by rfl) T.gC T.b0_init T.r_init pass0))))))), ?_⟩
    refine ⟨_, rfl, x, d, rfl, ob, fun ds N e H1 t s1 f1 hT => ?_, fun m => kE m⟩
    subst e
    have k := kS ds N rfl
    have lS := SI_lens N
    have sS := N.sum
    refine ⟨_, rfl, _, rfl, _, _, p, ns, rfl, ob_num N, hS.keep s1, O, fun ds' N' e' H2 s2 => ?_, fun m => absurd ⟨ds, N, rfl⟩ m⟩
    obtain rfl := numS_inj (V.str.inj e')
    have hT2 := hT.keep s2
    have hS2 := (hS.keep s1).keep s2
    have s12 := s1.trans s2
    generalize ho : backO ds ns = o at *
    have eh : headL ds ns = if ∀ k ∈ cutO o (SI ds), k ∈ ns then cutO o (SI ds) else [] := by unfold headL; rw [ho]
    rw [eh] at k
    refine ⟨fun σ A => ∃ h, σ = [some (.str (numS ds)), some (.ref p), some (.ref t), some (optV o), some (.ref h)] ∧ Same H A ∧ H h = none ∧ StrAt K T.C A h (cutO o (SI ds)), ?_, fun σ A hP => ?_⟩
    · cases o with
      | none => exact ⟨_, rfl, rfl, _, rfl, iteT ⟨_, rfl, t, rfl, s12, f1, hT2⟩⟩
      | some e =>
        obtain ⟨dx, fs, q, hp, l1, l2, hq⟩ := id hT2
        refine ⟨_, rfl, rfl, _, rfl, iteF ⟨_, rfl, t, dx, fs, rfl, hp, l2 _ (by decide), _, rfl, t, _, e, rfl, hT2, SI_off N, fun H3 r s3 f3 hR => ⟨r, rfl, s12.trans s3, s12.free f3, hR⟩⟩⟩
    · obtain ⟨h, rfl, sm, fh, hh⟩ := hP
      obtain ⟨dx, fs, q, hp, l1, l2, hq⟩ := id hh
      have lc := cutO_len (o := o) (ns := SI ds)
      refine ⟨_, rfl, h, dx, fs, rfl, hp, l2 _ (by decide), _, rfl, h, p, _, ns, rfl, hh, cutO_off (SI_off N), hS.keep sm, O, fun H3 s3 => ?_⟩
      by_cases c : ∀ k ∈ cutO o (SI ds), k ∈ ns
      · rw [decide_eq_true c]
        rw [if_pos c] at k
        exact ⟨_, rfl, iteT ⟨_, rfl, k _ h (sm.trans s3) fh (hh.keep s3)⟩⟩
      · rw [decide_eq_false c]
        rw [if_neg c] at k
        refine ⟨_, rfl, iteF ?_⟩
        refine fun x dy hx hdy ne => ?_
        have s4 := made (C := T.C) hx hdy ne
        obtain ⟨o, n, eT, eC, eD⟩ := T.eT
        refine ⟨x, dy, T.tE, true, [], rfl, upd_same, ?_, fun _ m => absurd m List.not_mem_nil, by show 0 < 2000; omega, fun H' ns2 off so le sA => ⟨rfl, ?_⟩⟩
        · exact .tup (.inr ⟨o, #[], n, eT, eC, eD, Nat.zero_le _, .nil⟩)
        have e := up_eq so.1 List.Pairwise.nil so.2
        subst e
        exact k _ x ((sm.trans s3).trans (made_off hx hdy ne off)) ((sm.trans s3).free hx) sA
end
end K15

namespace K15
open PySem L2 Wm TL Dv
section
variable {P : Program} {w : World} {K : PySem.W.Frag} {mg : Str → Option Value} {base : Heap}
theorem len_sum (ds : List Nat) : len ds = 2 * (ds.sum : Int) + 2 * (ds.length : Int) + 2 := by
  have := row_sum ds
  unfold len
  omega
theorem trL_pat (ds : List Nat) (a : Int) (n : Nat) : trL ds a n = (patL ds n).map fun k => a + k := by
  unfold trL patL
  rw [List.map_flatMap]
  refine congrArg (fun g => (List.range n).flatMap g) (funext fun (k : Nat) => ?_)
  rw [List.map_map]
  refine List.map_congr_left fun o _ => ?_
  show a + (k : Int) * len ds + o = a + ((k : Int) * ((rowL ds).length : Nat) + o)
  rw [Int.add_assoc]
  rfl
theorem trL_succ (ds : List Nat) (a : Int) (n : Nat) : trL ds a (n + 1) = trL ds a n ++ (SI ds).map fun o => a + (n : Int) * len ds + o := by
  unfold trL
  rw [List.range_succ, List.flatMap_append, List.flatMap_singleton]
theorem trL_up (ds : List Nat) (a : Int) (n : Nat) : (trL ds a n).Pairwise (· < ·) := by
  rw [trL_pat, List.pairwise_map]
  exact (patL_up n).imp fun h => by omega
theorem trL_len {ds : List Nat} (N : Num ds) (a : Int) (n : Nat) : (trL ds a n).length ≤ n * 24 := by
  rw [trL_pat, List.length_map, patL_len N, SI_lens N]
  exact Nat.mul_le_mul_left _ N.sum
theorem trL_mem {ds : List Nat} {a : Int} {n : Nat} {x : Int} : x ∈ trL ds a n ↔ ∃ k : Nat, k < n ∧ ∃ o ∈ SI ds, x = a + (k : Int) * len ds + o := by
  unfold trL
  rw [List.mem_flatMap]
  constructor
  · rintro ⟨k, hk, m⟩
    obtain ⟨o, mo, rfl⟩ := List.mem_map.mp m
    exact ⟨k, List.mem_range.mp hk, o, mo, rfl⟩
  · rintro ⟨k, hk, o, mo, rfl⟩
    exact ⟨k, List.mem_range.mpr hk, List.mem_map.mpr ⟨o, mo, rfl⟩⟩
theorem trC_off {ds : List Nat} (N : Num ds) (a : Int) {n : Nat} (h : n ≤ 8) (e : Int) : Off (trC ds a n e) := ⟨(trL_up ds a n).filter _, fun k m => by
  have := (List.mem_filter.mp m).2
  rw [Bool.and_eq_true] at this
  exact of_decide_eq_true this.1, by
  have h1 : (trC ds a n e).length ≤ (trL ds a n).length := List.length_filter_le _ _
  have := trL_len N a n
  omega⟩
theorem span_gap : ∀ (ds : List Nat) (f : Nat), (∀ d ∈ ds, 1 ≤ d) → ∀ p ∈ spans f ds, ∀ j : Nat, j < p.2 → ∀ T : Int, (f : Int) < T → T ≤ (p.1 : Int) + 2 * j → ∃ q ∈ spans f ds, ∃ i : Nat, i < q.2 ∧ T - 4 ≤ (q.1 : Int) + 2 * i ∧ (q.1 : Int) + 2 * i < T
  | [], f, _, p, mp, _, _, _, _, _ => by cases mp
  | d :: ds, f, hd, p, mp, j, hj, T, h1, h2 => by
    have d1 := hd d List.mem_cons_self
    rw [spans] at mp ⊢
    by_cases c : T ≤ (f : Int) + 2 * d
    · refine ⟨(f, d), List.mem_cons_self, ((T - f - 1) / 2).toNat, ?_, ?_, ?_⟩ <;> (show _; simp only []; omega)
    · by_cases c2 : T ≤ (f : Int) + 2 * d + 2
      · refine ⟨(f, d), List.mem_cons_self, d - 1, ?_, ?_, ?_⟩ <;> (show _; simp only []; omega)
      · rcases List.mem_cons.mp mp with e | mp
        · rw [e] at hj h2
          simp only [] at hj h2
          omega
        · obtain ⟨q, mq, i, hi, a1, a2⟩ := span_gap ds (f + 2 * d + 2) (fun x m => hd x (List.mem_cons_of_mem _ m)) p mp j hj T (by omega) h2
          exact ⟨q, List.mem_cons_of_mem _ mq, i, hi, a1, a2⟩
theorem span_end : ∀ (ds : List Nat) (f : Nat), ∀ p ∈ spans f ds, p.1 + 2 * p.2 + 2 ≤ f + 2 * ds.sum + 2 * ds.length
  | [], f, p, mp => by cases mp
  | d :: ds, f, p, mp => by
    rw [spans] at mp
    rw [List.sum_cons, List.length_cons]
    rcases List.mem_cons.mp mp with e | mp
    · rw [e]
      simp only []
      omega
    · have := span_end ds (f + 2 * d + 2) p mp
      omega
theorem SI_end {ds : List Nat} {k : Int} (h : k ∈ SI ds) : k + 6 ≤ len ds := by
  obtain ⟨p, mp, j, hj, rfl⟩ := SI_mem.mp h
  have := span_end ds 0 p mp
  rw [len_sum]
  omega
theorem SI_gap {ds : List Nat} (N : Num ds) {k T : Int} (h : k ∈ SI ds) (h0 : 0 < T) (h1 : T ≤ k) : ∃ o ∈ SI ds, T - 4 ≤ o ∧ o < T := by
  obtain ⟨p, mp, j, hj, rfl⟩ := SI_mem.mp h
  obtain ⟨q, mq, i, hi, a1, a2⟩ := span_gap ds 0 (fun d m => (N.dig d m).1) p mp j hj T (by omega) h1
  exact ⟨_, SI_mem.mpr ⟨q, mq, i, hi, rfl⟩, a1, a2⟩
theorem trB_iff {ds es : List Nat} {n : Nat} {a : Int} : trB ds es n a = true ↔ ∀ k : Nat, k < n → ∀ o ∈ SI ds, a + (k : Int) * len ds + o < len es → a + (k : Int) * len ds + o ∈ SI es := by
  unfold trB
  rw [List.all_eq_true]
  constructor
  · intro h k hk o mo lt
    have := h _ (trL_mem.mpr ⟨k, hk, o, mo, rfl⟩)
    rw [decide_eq_true lt] at this
    simpa using this
  · intro h x m
    obtain ⟨k, hk, o, mo, rfl⟩ := trL_mem.mp m
    by_cases c : a + (k : Int) * len ds + o < len es
    · rw [decide_eq_true (h k hk o mo c), Bool.or_true]
    · rw [decide_eq_false c]
      rfl
theorem len_pos (ds : List Nat) : 0 < len ds := by rw [len_sum]; omega
theorem mul_len (ds : List Nat) (k : Nat) : 0 ≤ (k : Int) * len ds := Int.mul_nonneg (by omega) (by have := len_pos ds; omega)
/-- a round that begins within es, with nothing foreign, lies within es wholly -/
theorem tr_in {ds es : List Nat} (N : Num ds) {b : Int} (lt : b < len es) (h : ∀ o ∈ SI ds, b + o < len es → b + o ∈ SI es) : insB ds es b = true := by
  rw [ins_iff]
  intro o mo
  rw [Int.add_comm]
  refine h o mo ?_
  by_cases c : b + o < len es
  · exact c
  · obtain ⟨o2, m2, a1, a2⟩ := SI_gap N mo (T := len es - b) (by omega) (by omega)
    have := SI_end (h o2 m2 (by omega))
    omega
theorem trB_ins {ds es : List Nat} (N : Num ds) {n : Nat} (hn : 1 ≤ n) {a : Int} (lt : a < len es) : trB ds es n a = true ↔ insB ds es a = true ∧ ∀ k : Nat, 1 ≤ k → k < n → a + (k : Int) * len ds < len es → insB ds es (a + (k : Int) * len ds) = true := by
  rw [trB_iff]
  constructor
  · intro h
    refine ⟨tr_in N lt fun o mo l => ?_, fun k _ hk l => tr_in N l (h k hk)⟩
    have := h 0 (by omega) o mo
    rw [show a + ((0 : Nat) : Int) * len ds + o = a + o by simp] at this
    exact this l
  · rintro ⟨h0, h1⟩ k hk o mo l
    have o0 := (SI_lt mo).1
    by_cases c : k = 0
    · subst c
      rw [show a + ((0 : Nat) : Int) * len ds + o = o + a by simp; omega]
      exact ins_iff.mp h0 o mo
    · have := ins_iff.mp (h1 k (by omega) hk (by omega)) o mo
      rw [Int.add_comm o] at this
      exact this
end
end K15

namespace K15
open PySem L2 Wm TL Dv
section
variable {P : Program} {w : World} {K : PySem.W.Frag} {mg : Str → Option Value} {base : Heap}
theorem trL_lt {ds : List Nat} (N : Num ds) (a : Int) {n : Nat} (h : n ≤ 8) : (trL ds a n).length ≤ 192 := by
  have := trL_len N a n
  omega
theorem ok_train_strokes (T : Txt K mg) : FnOk P w K mg base (L2.CX P w) 7 T.a_train_strokes T.d_train_strokes ["number", "at", "rounds", "span"] (sp_train_strokes K T.C T.CN) := by
  refine T.F_train_strokes.okX sc_train_strokes (fun vs H Q E h => ?_) (fun cdv A outer s H vs Q E hr h => ?_)
  · obtain ⟨x, d, a, n, e, rfl, _⟩ := h
    rfl
  · obtain ⟨x, d, a, n, e, rfl, ob, hn, kS, kE⟩ := h
    refine ⟨_, (pss_cons (ps_set (i := 4) sc_train_strokes.nd rfl (Or.inr rfl) (pe_callS (ok_length_of T) (hr.mono (by decide)) rfl T.g_length_of T.F_length_of.kp T.b_length_of (fun σ => passAt (takes_of rfl rfl rfl rfl) σ) (by exact (pa_cons (pv 0) pa_nil))))
      (pss_cons (ps_set (i := 5) sc_train_strokes.nd rfl (Or.inr rfl) (pe_callS (ok_strokes_of T) (hr.mono (by decide)) rfl T.g_strokes_of T.F_strokes_of.kp T.b_strokes_of (fun σ => passAt (takes_of rfl rfl rfl rfl) σ) (by exact (pa_cons (pv 0) pa_nil))))
      (pss_cons (ps_setLc2 (i := 6) (own := [("index", 7), ("offset", 8)]) (g := gName 7) (tt := tYes) (g1 := gName 8) (tt1 := tYes) (vs1 := [8]) rfl sc_train_strokes.nd rfl rfl (sw_true rfl rfl rfl (by decide +kernel)) (pi_range1 (by rfl) T.z_range (pa_cons (pv 2) pa_nil)) (blkOk_by (own := [("index", 7), ("offset", 8)]) (N := nm_train_strokes) (sc := (defScope s_train_strokes)) (by decide +kernel)) (by decide) (fun _ _ _ _ _ => pg_name (i := 7) sc_train_strokes.nd rfl (Or.inl rfl)) (fun _ _ _ _ _ => pts_nil) (fun _ _ _ _ _ => (show PI _ _ _ (Li.iOwnT K T.C (spA_iter K T.C) E0 (tVar 5)) from (Li.pi_ownT T.aIt T.iIt (okA_iter T) (hr.mono (by decide)) (pv 5)))) (fun _ _ _ _ _ => pg_name (i := 8) sc_train_strokes.nd rfl (Or.inl rfl)) (fun _ _ _ _ _ => pts_nil) (fun _ _ _ _ _ => (pe_op op_add (pe_op op_add (pv 1) (pe_op op_mul (pv 7) (pv 4))) (pv 8))))
      (pss_one (ps_ret (pe_make T.mk_init (ok_init T) (hr.mono (by decide)) (by rfl) T.gC T.b_init .nil pass0 (pa_cons (pe_lc (own := [("offset", 8)]) (g := gName 8) rfl sc_train_strokes.nd (pi_list (pv 6)) (blkOk_by (own := [("offset", 8)]) (N := nm_train_strokes) (sc := (defScope s_train_strokes)) (by decide +kernel)) (fun _ _ _ _ _ => pg_name (i := 8) sc_train_strokes.nd rfl (Or.inl rfl)) (fun _ _ _ _ _ => (pts_one (pt_chain op_le op_lt pe_int (pv 8) (pv 3)))) (fun _ _ _ _ _ => (pv 8))) pa_nil))))))), ?_⟩
    refine ⟨_, rfl, x, d, rfl, ob, fun ds N ex H1 s1 => ?_, fun m => kE m⟩
    subst ex
    refine ⟨_, rfl, _, d, rfl, ob.keep s1, fun ds' N' e' H2 p s2 f2 hS => ?_, fun m => absurd ⟨ds, N, rfl⟩ m⟩
    have e0 : ds = ds' := numS_inj (V.str.inj e')
    subst e0
    have k := kS ds N rfl
    have s12 := s1.trans s2
    obtain ⟨dx, fs, q, hp, l1, l2, hq2⟩ := id hS
    have Ol := trC_off N a hn e
    have tl := trL_lt N a hn
    refine ⟨_, rfl, _, rfl, by omega, by omega, fun D hD => ?_⟩
    refine Et.out_it walk_range (fun i A => Same H2 A ∧ A D = some (.lst ((trL ds a i).map V.int))) ⟨same_new hD, upd_same⟩ (fun _ _ _ _ => trivial) (fun i y A A' hi hP hY => ?_) (fun A hP => ?_)
    · obtain ⟨sm, hL⟩ := hP
      obtain ⟨rfl, ey⟩ := hY
      have ey : y = .int (i : Nat) := by rw [ey]; exact congrArg V.int (Int.zero_add _)
      subst ey
      have hi : i < n := by simpa using hi
      have hp := sm _ _ hp
      have hq := sameT sm hq2
      refine ⟨rfl, yesT ?_⟩
      refine ⟨_, rfl, p, dx, fs, rfl, hp, fun m => ⟨p, q, SI ds, rfl, ⟨dx, fs, hp, l1, hq⟩, fun it f1 le => ⟨it, q, _, rfl, le, upd_same, sameT (same_new f1) hq, ?_⟩⟩⟩
      rw [drop_new f1]
      refine Et.in_it walk_tup (fun j B => Same H2 B ∧ SqT K B q ((SI ds).map V.int) ∧ B D = some (.lst ((trL ds a i ++ ((SI ds).take j).map fun o => a + (i : Int) * len ds + o).map V.int))) ⟨sm, hq, by simpa using hL⟩ (fun j B _ hP => hP.2.1) (fun j z B B' hj hP hY => ?_) (fun B hP => ?_)
      · obtain ⟨sB, sB2, hB⟩ := hP
        obtain ⟨rfl, hz⟩ := hY
        rw [List.getElem?_map] at hz
        obtain ⟨z0, hz0, rfl⟩ := Option.map_eq_some_iff.mp hz
        have le : (trL ds a i ++ ((SI ds).take j).map fun o => a + (i : Int) * len ds + o).length ≤ 960 := by
          rw [List.length_append, List.length_map, List.length_take]
          have := trL_len N a i
          have := SI_lens N
          have := N.sum
          omega
        refine ⟨rfl, yesT ?_⟩
        refine ⟨_, rfl, _, rfl, _, rfl, _, _, rfl, rfl, .inl ⟨by omega, by omega⟩, _, _, rfl, rfl, _, rfl, _, _, rfl, rfl, _, hB, by rw [List.length_map]; exact small1000 (by omega), same_mut sB hD, ?_, ?_⟩
        · exact sameT (same_mut sB hD) hq2
        · rw [upd_same, tk_succ hz0]
          simp only [List.map_append, List.append_assoc]
          rfl
      · obtain ⟨sB, sB2, hB⟩ := hP
        rw [List.length_map, List.take_length, ← trL_succ] at hB
        exact ⟨sB, hB⟩
    · obtain ⟨sm, hL⟩ := hP
      have hL : A D = some (.lst ((trL ds a n).map V.int)) := by simpa using hL
      refine ⟨_, rfl, D, rfl, ⟨_, SqL.of hL⟩, fun D2 hD2 => ?_⟩
      have sA := same_new (o := .lst []) hD2
      refine lc_it walk_list (fun j B => Same A B ∧ B D2 = some (.lst ((((trL ds a n).take j).filter fun o => decide (0 ≤ o) && decide (o < e)).map V.int))) ⟨sA, upd_same⟩ (fun j B _ h => SqL.of (h.1 _ _ hL)) (fun j v B B' hj hP hY => ?_) (fun B hP => ?_)
      · obtain ⟨sB, hB⟩ := hP
        obtain ⟨rfl, hv⟩ := hY
        rw [List.getElem?_map] at hv
        obtain ⟨z, hz, rfl⟩ := Option.map_eq_some_iff.mp hv
        have nx : ∀ c : Bool, (decide (0 ≤ z) && decide (z < e)) = c → ((((trL ds a n).take (j + 1)).filter fun o => decide (0 ≤ o) && decide (o < e)) = (((trL ds a n).take j).filter fun o => decide (0 ≤ o) && decide (o < e)) ++ if c = true then [z] else []) := fun c ec => by
          rw [tk_succ hz, List.filter_append]
          cases c <;> simp [List.filter_cons, ec]
        have lf : (((trL ds a n).take j).filter fun o => decide (0 ≤ o) && decide (o < e)).length ≤ 192 := Nat.le_trans (List.length_filter_le _ _) (by rw [List.length_take]; omega)
        refine ⟨rfl, _, rfl, _, _, rfl, rfl, _, rfl, ite2 (fun c1 => ?_) (fun c1 => ?_)⟩
        · refine ⟨_, rfl, _, _, rfl, rfl, _, rfl, ite2 (fun c2 => ?_) (fun c2 => ?_)⟩
          · refine ⟨_, rfl, _, hB, by rw [List.length_map]; exact small1000 (by omega), same_mut sB hD2, ?_⟩
            rw [upd_same, nx true (by rw [c1, c2]; rfl), List.map_append]
            rfl
          · refine ⟨sB, ?_⟩
            rw [nx false (by rw [c1]; simpa using c2), if_neg (by decide), List.append_nil]
            exact hB
        · refine ⟨_, rfl, iteF ⟨sB, ?_⟩⟩
          rw [nx false (by rw [show decide (0 ≤ z) = false by simpa using c1]; rfl), if_neg (by decide), List.append_nil]
          exact hB
      · obtain ⟨sB, hB⟩ := hP
        rw [List.length_map, List.take_length] at hB
        refine fun x2 dy hx hdy ne => ?_
        have m1 := made (C := T.C) hx hdy ne
        have le : (trC ds a n e).length ≤ (trL ds a n).length := List.length_filter_le _ _
        refine ⟨x2, dy, D2, false, trC ds a n e, rfl, upd_same, Kd.Is.lst (SqL.of (m1 _ _ hB)), Ol.lo, by omega, fun H' ns2 off so le sS => ⟨rfl, ?_⟩⟩
        have e := up_eq so.1 Ol.up so.2
        subst e
        exact k _ x2 ((s12.trans (sm.trans sB)).trans (made_off hx hdy ne off)) ((s12.trans (sm.trans sB)).free hx) sS
end
end K15

namespace K15
open PySem L2 Wm TL Dv
section
variable {P : Program} {w : World} {K : PySem.W.Frag} {mg : Str → Option Value} {base : Heap}
/-- all but p stands -/
def Bx (p : Addr) (H H' : Hp) : Prop := ∀ r o, r ≠ p → H r = some o → H' r = some o
theorem Bx.refl (p : Addr) (H : Hp) : Bx p H H := fun _ _ _ e => e
theorem Bx.trans {p : Addr} {H H1 H2 : Hp} (a : Bx p H H1) (b : Bx p H1 H2) : Bx p H H2 := fun r o n e => b r o n (a r o n e)
theorem Bx.same {p : Addr} {H H' : Hp} (s : Same H H') : Bx p H H' := fun r o _ e => s r o e
theorem Bx.put {p : Addr} {H : Hp} {o : HO} : Bx p H (upd H p o) := fun r u n e => by rw [upd_ne n]; exact e
theorem SqT.bx {p a L dx : Addr} {fs : List (Str × V)} {H H' : Hp} {xs : List V} (h : SqT K H a xs) (b : Bx p H H') (hp : H p = some (.ins L dx fs)) : SqT K H' a xs := by
  rcases h with (q | ⟨ob, q⟩) | q
  · exact .inl (.inl (b _ _ (fun e => by subst e; rw [hp] at q; cases q) q))
  · exact .inl (.inr ⟨ob, b _ _ (fun e => by subst e; rw [hp] at q; cases q) q⟩)
  · exact .inr q
theorem StrAt.bx {C p q L dx : Addr} {fs : List (Str × V)} {H H' : Hp} {ns : List Int} (h : StrAt K C H q ns) (b : Bx p H H') (hp : H p = some (.ins L dx fs)) (ne : q ≠ p) : StrAt K C H' q ns := by
  obtain ⟨dx2, fs2, q2, h1, h2, h3, h4⟩ := h
  exact ⟨dx2, fs2, q2, b _ _ ne h1, h2, h3, SqT.bx h4 b hp⟩
theorem StrAt.k {C q : Addr} {H H' : Hp} {ns : List Int} (h : StrAt K C H q ns) (s : Same H H') : StrAt K C H' q ns := by
  obtain ⟨dx2, fs2, q2, h1, h2, h3, h4⟩ := h
  exact ⟨dx2, fs2, q2, s _ _ h1, h2, h3, sameT s h4⟩
theorem ok_linit (T : Txt K mg) : FnOk P w K mg base CX0 1 T.a_linit T.d_linit ["self", "number", "kind", "at", "rounds", "strokes", "end"] (sp_linit K T.C T.L) := by
  refine T.F_linit.ok sc_linit (fun vs H Q E h => ?_) (fun cdv A outer s H vs Q E hr h => ?_)
  · obtain ⟨p, dx, q, ds, kind, a, n, e, ns, rfl, _⟩ := h
    rfl
  · obtain ⟨p, dx, q, ds, kind, a, n, e, ns, rfl, hp, qp, hS, k⟩ := h
    refine ⟨_, (pss_cons (ps_fld (pv 0) (pv 1) rfl)
      (pss_cons (ps_fld (pv 0) (pv 2) rfl)
      (pss_cons (ps_fld (pv 0) (pv 3) rfl)
      (pss_cons (ps_fld (pv 0) (pv 4) rfl)
      (pss_cons (ps_fld (pv 0) (pv 5) rfl)
      (pss_one (ps_fld (pv 0) (pv 6) rfl))))))), ?_⟩
    refine ⟨_, rfl, _, rfl, p, T.L, dx, [], rfl, hp, T.clL, T.nN, by show 0 < 1000; decide, ?_⟩
    refine ⟨_, rfl, _, rfl, p, T.L, dx, _, rfl, upd_same, T.clL, T.nK, by show 1 < 1000; decide, ?_⟩
    refine ⟨_, rfl, _, rfl, p, T.L, dx, _, rfl, upd_same, T.clL, T.nA, by show 2 < 1000; decide, ?_⟩
    refine ⟨_, rfl, _, rfl, p, T.L, dx, _, rfl, upd_same, T.clL, T.nR, by show 3 < 1000; decide, ?_⟩
    refine ⟨_, rfl, _, rfl, p, T.L, dx, _, rfl, upd_same, T.clL, T.nSt, by show 4 < 1000; decide, ?_⟩
    refine ⟨_, rfl, _, rfl, p, T.L, dx, _, rfl, upd_same, T.clL, T.nE, by show 5 < 1000; decide, ?_⟩
    refine k _ ?_ ⟨p, dx, _, q, rfl, upd_same, rfl, rfl, rfl, rfl, rfl, ?_, rfl, fun m a1 a2 a3 a4 a5 a6 => ?_⟩
    · show Bx p H _
      exact Bx.put.trans (Bx.put.trans (Bx.put.trans (Bx.put.trans (Bx.put.trans Bx.put))))
    · exact hS.bx (Bx.put.trans (Bx.put.trans (Bx.put.trans (Bx.put.trans (Bx.put.trans Bx.put))))) hp qp
    · show List.lookup m [(("number" : Str), _), (("kind" : Str), _), (("at" : Str), _), (("rounds" : Str), _), (("strokes" : Str), _), (("end" : Str), _)] = none
      simp only [List.lookup, beq_eq_false_iff_ne.mpr a1, beq_eq_false_iff_ne.mpr a2, beq_eq_false_iff_ne.mpr a3, beq_eq_false_iff_ne.mpr a4, beq_eq_false_iff_ne.mpr a5, beq_eq_false_iff_ne.mpr a6]
theorem ok_tinit (T : Txt K mg) : FnOk P w K mg base CX0 7 T.a_tinit T.d_tinit ["self", "pattern", "span", "number"] (sp_tinit K T.C T.TC) := by
  refine T.F_tinit.ok sc_tinit (fun vs H Q E h => ?_) (fun cdv A outer s H vs Q E hr h => ?_)
  · obtain ⟨p, dx, q, ds, ns, e, rfl, _⟩ := h
    rfl
  · obtain ⟨p, dx, q, ds, ns, e, rfl, hp, qp, N, hS, O, k⟩ := h
    refine ⟨_, (pss_cons (ps_fld (pv 0) (pv 2) rfl)
      (pss_cons (ps_fld (pv 0) (pv 3) rfl)
      (pss_cons (ps_fld (pv 0) (pe_call (ok_length_of T) (hr.mono (by decide)) (by rfl) T.g_length_of T.F_length_of.kp T.b_length_of .nil Mk1.passF (pa_cons (pv 3) pa_nil)) rfl)
      (pss_cons (ps_fld (pv 0) (pe_fld (pe_call (ok_strokes_of T) (hr.mono (by decide)) (by rfl) T.g_strokes_of T.F_strokes_of.kp T.b_strokes_of .nil Mk1.passF (pa_cons (pv 3) pa_nil)) rfl) rfl)
      (pss_one (ps_fld (pv 0) (pe_dc (own := [("offset", 4)]) (g := gName 4) (tt := tYes) rfl sc_tinit.nd (show PI _ _ _ (Li.iOwnT K T.C (spA_iter K T.C) E0 (tVar 1)) from (Li.pi_ownT T.aIt T.iIt (okA_iter T) (hr.mono (by decide)) (pv 1))) (blkOk_by (own := [("offset", 4)]) (N := nm_tinit) (sc := (defScope s_tinit)) (by decide +kernel)) (fun _ _ _ _ _ => pg_name (i := 4) sc_tinit.nd rfl (Or.inl rfl)) (fun _ _ _ _ _ => pts_nil) (fun _ _ _ _ _ => (pv 4)) (fun _ _ _ _ _ => pe_bl)) rfl)))))), ?_⟩
    have few := O.few
    refine ⟨_, rfl, _, rfl, p, T.TC, dx, [], rfl, hp, T.clTC, T.nSp, by show 0 < 1000; decide, ?_⟩
    refine ⟨_, rfl, _, rfl, p, T.TC, dx, _, rfl, upd_same, T.clTC, T.nNu, by show 1 < 1000; decide, ?_⟩
    refine ⟨_, rfl, _, _, rfl, ob_num N, fun ds' N' e' H1 s1 => ?_, fun m => absurd ⟨ds, N, rfl⟩ m⟩
    have e0 : ds = ds' := numS_inj (V.str.inj e')
    subst e0
    refine ⟨_, rfl, p, T.TC, dx, _, rfl, s1 _ _ upd_same, T.clTC, T.nLe, by show 2 < 1000; decide, ?_⟩
    refine ⟨_, rfl, _, _, rfl, ob_num N, fun ds' N' e' H2 r s2 r0 hr => ?_, fun m => absurd ⟨ds, N, rfl⟩ m⟩
    have e0 : ds = ds' := numS_inj (V.str.inj e')
    subst e0
    obtain ⟨dx2, fs2, qr, hr1, l1, l2, hqr⟩ := id hr
    have hp2 := s2 _ _ (upd_same (H := H1) (a := p) (o := .ins T.TC dx (putF "length" (.int ((rowL ds).length : Nat)) (putF "number" (.str (numS ds)) (putF "span" (.int e) [])))))
    refine ⟨r, T.C, dx2, fs2, _, rfl, hr1, T.clC, T.nO, l1, _, rfl, p, T.TC, dx, _, rfl, hp2, T.clTC, T.nOf, by show 3 < 1000; decide, ?_⟩
    have b3 : Bx p H (upd H2 p (.ins T.TC dx (putF "offsets" (.ref qr) (putF "length" (.int ((rowL ds).length : Nat)) (putF "number" (.str (numS ds)) (putF "span" (.int e) [])))))) := (Bx.put.trans Bx.put).trans ((Bx.same s1).trans (Bx.put.trans ((Bx.same s2).trans Bx.put)))
    have hp3 : upd H2 p (.ins T.TC dx (putF "offsets" (.ref qr) (putF "length" (.int ((rowL ds).length : Nat)) (putF "number" (.str (numS ds)) (putF "span" (.int e) []))))) p = some (.ins T.TC dx (putF "offsets" (.ref qr) (putF "length" (.int ((rowL ds).length : Nat)) (putF "number" (.str (numS ds)) (putF "span" (.int e) []))))) := upd_same
    have q3 : SqT K (upd H2 p (.ins T.TC dx (putF "offsets" (.ref qr) (putF "length" (.int ((rowL ds).length : Nat)) (putF "number" (.str (numS ds)) (putF "span" (.int e) [])))))) qr ((SI ds).map V.int) := SqT.bx hqr Bx.put hp2
    obtain ⟨dxq, fsq, qq, hq1, m1, m2, hqq⟩ := hS.bx b3 hp qp
    generalize upd H2 p (.ins T.TC dx (putF "offsets" (.ref qr) (putF "length" (.int ((rowL ds).length : Nat)) (putF "number" (.str (numS ds)) (putF "span" (.int e) []))))) = H3 at b3 hp3 q3 hq1 hqq ⊢
    refine ⟨_, rfl, q, dxq, fsq, rfl, hq1, fun m => ⟨q, qq, ns, rfl, ⟨dxq, fsq, hq1, m1, hqq⟩, fun it f1 le => ⟨it, qq, _, rfl, le, upd_same, sameT (same_new f1) hqq, ?_⟩⟩⟩
    rw [drop_new f1]
    refine fun D hD => dc_tup (xs := ns.map V.int) (fun i A => Same H3 A ∧ ∃ kvs, A D = some (.dK kvs) ∧ kvs.length ≤ i ∧ ∀ j : Int, (valV kvs (.inl j)).isSome = decide (j ∈ ns.take i)) ⟨same_new hD, [], upd_same, Nat.le_refl _, fun j => by simp [valV_nil]⟩ (fun i A _ h => sameT h.1 hqq) (fun i v A hv hP => ?_) (fun A hP => ?_)
    · obtain ⟨sA, kvs, hk, lk, vk⟩ := hP
      rw [List.getElem?_map] at hv
      obtain ⟨z, hz, rfl⟩ := Option.map_eq_some_iff.mp hv
      have hi := (List.getElem?_eq_some_iff.mp hz).1
      refine ⟨rfl, yesT ?_⟩
      refine ⟨_, rfl, kvs, .inl z, rfl, hk, small1000 (by omega), same_mut sA hD, _, upd_same, ?_, fun j => ?_⟩
      · unfold putK
        split
        · rw [List.length_map]; omega
        · rw [List.length_append, List.length_singleton]; omega
      · rw [valV_put, tk_succ hz]
        by_cases c : j = z
        · subst c
          simp
        · have c2 : ¬ (Sum.inl j : Key) = .inl z := fun w => c (Sum.inl.inj w)
          rw [if_neg c2, vk]
          simp [c]
    · obtain ⟨sA, kvs, hk, lk, vk⟩ := hP
      rw [List.length_map, List.take_length] at vk
      have hpA := sA _ _ hp3
      have Dp : D ≠ p := fun w => by rw [← w, hD] at hp3; cases hp3
      refine ⟨_, rfl, p, T.TC, dx, _, rfl, hpA, T.clTC, T.nKn, by show 4 < 1000; decide, ?_⟩
      refine k _ ?_ ⟨dx, _, qr, D, kvs, upd_same, rfl, rfl, rfl, rfl, SqT.bx q3 ((Bx.same sA).trans Bx.put) hp3, rfl, by rw [upd_ne Dp]; exact hk, vk, fun m' a1 a2 a3 a4 a5 => ?_⟩
      · show Bx p H _
        exact b3.trans ((Bx.same sA).trans Bx.put)
      · show List.lookup m' [(("span" : Str), _), (("number" : Str), _), (("length" : Str), _), (("offsets" : Str), _), (("known" : Str), _)] = none
        rw [List.lookup_cons, beq_eq_false_iff_ne.mpr a1, List.lookup_cons, beq_eq_false_iff_ne.mpr a2, List.lookup_cons, beq_eq_false_iff_ne.mpr a3, List.lookup_cons, beq_eq_false_iff_ne.mpr a4, List.lookup_cons, beq_eq_false_iff_ne.mpr a5]
        rfl
end
end K15

namespace K15
open PySem L2 Wm TL Dv
section
variable {P : Program} {w : World} {K : PySem.W.Frag} {mg : Str → Option Value} {base : Heap}
theorem len_le {ds : List Nat} (N : Num ds) : len ds ≤ 100 := by
  have := row_le ds N
  unfold len
  omega
theorem no_m (m : Str) (a1 : decide (m = "span") = false) (a2 : decide (m = "number") = false) (a3 : decide (m = "length") = false) (a4 : decide (m = "offsets") = false) (a5 : decide (m = "known") = false) {fs : List (Str × V)}
    (l : ∀ m : Str, m ≠ "span" → m ≠ "number" → m ≠ "length" → m ≠ "offsets" → m ≠ "known" → fs.lookup m = none) : fs.lookup m = none := l m (of_decide_eq_false a1) (of_decide_eq_false a2) (of_decide_eq_false a3) (of_decide_eq_false a4) (of_decide_eq_false a5)
theorem any_succ {xs : List Int} {i : Nat} {z : Int} (p : Int → Bool) (h : xs[i]? = some z) : (xs.take (i + 1)).any p = ((xs.take i).any p || p z) := by
  rw [tk_succ h, List.any_append]
  simp
theorem ok_has_foreign (T : Txt K mg) : FnOk P w K mg base CX0 1 T.a_has_foreign T.d_has_foreign ["self", "at"] (sp_has_foreign K T.TC) := by
  refine T.F_has_foreign.ok sc_has_foreign (fun vs H Q E h => ?_) (fun cdv A outer s H vs Q E hr h => ?_)
  · obtain ⟨p, a, ds, ns, e, rfl, _⟩ := h
    rfl
  · obtain ⟨p, a, ds, ns, e, rfl, hT, N, k⟩ := h
    obtain ⟨dx, fs, q, kn, kvs, hp, l1, l2, l3, l4, hq, l5, hk, vk, l6⟩ := hT
    refine ⟨_, (pss_cons (ps_for PassesOwn.never rfl (pi_tup (pe_fld (pv 0) rfl)) (pg_name (i := 2) sc_has_foreign.nd rfl (Or.inl rfl))
        (pss_one (ps_if (PW.pt (pw_and (pt_cmp (pc_dnotin (Nat.lt_of_le_of_lt (Nat.add_le_add_left (by decide) _) hr.units) (pe_op op_add (pv 1) (pv 2)) (pe_fld (pv 0) rfl))) (pw_and1 (pt_chain op_le op_lt pe_int (pe_op op_add (pv 1) (pv 2)) (pe_fld (pv 0) rfl)))))
          (pss_one (ps_ret pe_bl))
          pss_nil)))
      (pss_one (ps_ret pe_bl))), ?_⟩
    refine ⟨_, rfl, p, T.TC, dx, fs, _, rfl, hp, T.clTC, T.nOf, l4, q, rfl, ⟨_, hq⟩, ?_⟩
    refine for_tup (xs := (SI ds).map V.int) (fun i σ A => ∃ v2, σ = [some (.ref p), some (.int a), v2] ∧ A = H ∧ ((SI ds).take i).any (fun o => !decide (a + o ∈ ns) && (decide (0 ≤ a + o) && decide (a + o < e))) = false)
      ⟨none, rfl, rfl, rfl⟩ (fun i σ A _ hP => by obtain ⟨_, _, e1, _⟩ := hP; rw [e1]; exact hq) (fun i v σ A hv hP => ?_) (fun σ A hP => ?_)
    · obtain ⟨v2, rfl, rfl, no⟩ := hP
      rw [List.getElem?_map] at hv
      obtain ⟨z, hz, rfl⟩ := Option.map_eq_some_iff.mp hv
      have as := any_succ (fun o => !decide (a + o ∈ ns) && (decide (0 ≤ a + o) && decide (a + o < e))) hz
      have yes : (!decide (a + z ∈ ns) && (decide (0 ≤ a + z) && decide (a + z < e))) = true → forB ds ns e a = true := fun h => List.any_eq_true.mpr ⟨z, List.mem_of_getElem? hz, h⟩
      have nxt : (!decide (a + z ∈ ns) && (decide (0 ≤ a + z) && decide (a + z < e))) = false → ((SI ds).take (i + 1)).any (fun o => !decide (a + o ∈ ns) && (decide (0 ≤ a + o) && decide (a + o < e))) = false := fun h => by rw [as, no, h]; rfl
      refine ⟨_, rfl, _, rfl, _, _, rfl, rfl, _, rfl, p, T.TC, dx, fs, _, rfl, hp, T.clTC, T.nKn, l5, kn, _, rfl, .inl ⟨kvs, .inl (a + z), .inl hk, rfl, rfl⟩, ?_⟩
      rw [vk]
      refine ⟨_, rfl, ite2 (fun c1 => ?_) (fun c1 => ?_)⟩
      · refine ⟨_, rfl, _, rfl, _, _, rfl, rfl, _, _, rfl, rfl, _, rfl, ite2 (fun c2 => ?_) (fun c2 => ?_)⟩
        · refine ⟨_, rfl, p, T.TC, dx, fs, _, rfl, hp, T.clTC, T.nSp, l1, _, _, rfl, rfl, _, rfl, ite2 (fun c3 => ?_) (fun c3 => ?_)⟩
          · rw [yes (by rw [c1, c2, c3]; rfl)] at k
            exact k
          · exact ⟨_, rfl, rfl, nxt (by rw [show decide (a + z < e) = false by simpa using c3]; simp)⟩
        · refine ⟨_, rfl, iteF ?_⟩
          exact ⟨_, rfl, rfl, nxt (by rw [show decide (0 ≤ a + z) = false by simpa using c2]; simp)⟩
      · exact ⟨_, rfl, rfl, nxt (by rw [show (!decide (a + z ∈ ns)) = false by simpa using c1]; rfl)⟩
    · obtain ⟨v2, rfl, rfl, no⟩ := hP
      rw [List.length_map, List.take_length] at no
      have : forB ds ns e a = false := no
      rw [this] at k
      exact k
theorem good_at {ds : List Nat} {ns : List Int} {e a : Int} {m i : Nat} (hi : i < m) (h : forB ds ns e (a + (i : Int) * len ds) = true) (h2 : ∀ k : Nat, k < i → forB ds ns e (a + (k : Int) * len ds) = false) : goodN ds ns e a m = i := by
  unfold goodN
  have : (List.range m).find? (fun (k : Nat) => forB ds ns e (a + (k : Int) * len ds)) = some i := List.find?_range_eq_some.mpr ⟨h, List.mem_range.mpr hi, fun j hj => by rw [h2 j hj]; rfl⟩
  rw [this]
  rfl
theorem good_all {ds : List Nat} {ns : List Int} {e a : Int} {m : Nat} (h2 : ∀ k : Nat, k < m → forB ds ns e (a + (k : Int) * len ds) = false) : goodN ds ns e a m = m := by
  unfold goodN
  have : (List.range m).find? (fun (k : Nat) => forB ds ns e (a + (k : Int) * len ds)) = none := List.find?_range_eq_none.mpr fun j hj => by rw [h2 j hj]; rfl
  rw [this]
  rfl
theorem good_le (ds : List Nat) (ns : List Int) (e a : Int) (m : Nat) : goodN ds ns e a m ≤ m := by
  unfold goodN
  cases h : (List.range m).find? (fun (k : Nat) => forB ds ns e (a + (k : Int) * len ds)) with
  | none => exact Nat.le_refl _
  | some i => exact Nat.le_of_lt (List.mem_range.mp (List.mem_of_find?_eq_some h))
theorem TrainAt.k {TC p : Addr} {H H' : Hp} {ds : List Nat} {ns : List Int} {e : Int} (h : TrainAt K TC H p ds ns e) (s : Same H H') : TrainAt K TC H' p ds ns e := by
  obtain ⟨dx, fs, q, kn, kvs, hp, l1, l2, l3, l4, hq, l5, hk, vk, l6⟩ := h
  exact ⟨dx, fs, q, kn, kvs, s _ _ hp, l1, l2, l3, l4, sameT s hq, l5, s _ _ hk, vk, l6⟩
theorem ok_good_rounds (T : Txt K mg) : FnOk P w K mg base CX0 2 T.a_good_rounds T.d_good_rounds ["self", "at", "most"] (sp_good_rounds K T.TC) := by
  refine T.F_good_rounds.ok sc_good_rounds (fun vs H Q E h => ?_) (fun cdv A outer s H vs Q E hr h => ?_)
  · obtain ⟨p, a, m, ds, ns, e, rfl, _⟩ := h
    rfl
  · obtain ⟨p, a, m, ds, ns, e, rfl, hT, N, m8, k⟩ := h
    obtain ⟨dx, fs, q, kn, kvs, hp, l1, l2, l3, l4, hq, l5, hk, vk, l6⟩ := id hT
    have l100 := len_le N
    have l0 := len_pos ds
    refine ⟨_, (pss_cons (ps_for PassesOwn.never rfl (pi_range1 (by rfl) T.z_range (pa_cons (pv 2) pa_nil)) (pg_name (i := 3) sc_good_rounds.nd rfl (Or.inl rfl))
        (pss_one (ps_if (pt_val (pe_meth (pv 0) T.clTC T.m_has_foreign (ok_has_foreign T) (hr.mono (by decide)) T.b_has_foreign .nil pass0 (pa_cons (pe_op op_add (pv 1) (pe_op op_mul (pv 3) (pe_fld (pv 0) rfl))) pa_nil)))
          (pss_one (ps_ret (pv 3)))
          pss_nil)))
      (pss_one (ps_ret (pv 2)))), ?_⟩
    refine ⟨_, rfl, _, rfl, by omega, by omega, ?_⟩
    rw [Int.toNat_natCast]
    refine for_range (fun i σ A => ∃ v3, σ = [some (.ref p), some (.int a), some (.int (m : Nat)), v3] ∧ A = H ∧ ∀ k : Nat, k < i → forB ds ns e (a + (k : Int) * len ds) = false)
      ⟨none, rfl, rfl, fun k h => absurd h (Nat.not_lt_zero _)⟩ (fun i σ A hi hP => ?_) (fun σ A hP => ?_)
    · obtain ⟨v3, rfl, rfl, no⟩ := hP
      refine ⟨_, rfl, p, dx, fs, rfl, hp, no_m "has_foreign" (by decide +kernel) (by decide +kernel) (by decide +kernel) (by decide +kernel) (by decide +kernel) l6, ?_⟩
      refine ⟨_, rfl, _, rfl, _, rfl, p, T.TC, dx, fs, _, rfl, hp, T.clTC, T.nLe, l3, _, _, rfl, rfl, .inl ⟨by omega, by omega⟩, _, _, rfl, rfl, p, _, ds, ns, e, rfl, hT, N, ?_⟩
      rw [Int.zero_add]
      refine ⟨_, rfl, ite2 (fun c => ?_) (fun c => ?_)⟩
      · have g := good_at hi c no
        rw [g] at k
        exact ⟨_, rfl, k⟩
      · refine ⟨_, rfl, rfl, fun j hj => ?_⟩
        by_cases z : j = i
        · subst z
          simpa using c
        · exact no j (by omega)
    · obtain ⟨v3, rfl, rfl, no⟩ := hP
      rw [good_all no] at k
      exact ⟨_, rfl, k⟩
end
end K15

namespace K15
open PySem L2 Wm TL Dv
section
variable {P : Program} {w : World} {K : PySem.W.Frag} {mg : Str → Option Value} {base : Heap}
theorem LayAt.lk {C L D : Addr} {H H' : Hp} {v : V} {y : Ly} {xs : List V} (h : LayAt K C L H v y) (hD : H D = some (.lst xs)) (b : Bx D H H') : LayAt K C L H' v y := by
  obtain ⟨p, dx, fs, q, rfl, hp, l1, l2, l3, l4, l5, ⟨dx2, fs2, q2, h1, h2, h3, h4⟩, l6⟩ := h
  refine ⟨p, dx, fs, q, rfl, b _ _ (fun e => by rw [e, hD] at hp; cases hp) hp, l1, l2, l3, l4, l5, ⟨dx2, fs2, q2, b _ _ (fun e => by rw [e, hD] at h1; cases h1) h1, h2, h3, ?_⟩, l6⟩
  rcases h4 with (w | ⟨ob, w⟩) | w
  · exact .inl (.inl (b _ _ (fun e => by subst e; rw [hD] at w; cases w) w))
  · exact .inl (.inr ⟨ob, b _ _ (fun e => by subst e; rw [hD] at w; cases w) w⟩)
  · exact .inr w
theorem LayAt.k {C L : Addr} {H H' : Hp} {v : V} {y : Ly} (h : LayAt K C L H v y) (s : Same H H') : LayAt K C L H' v y := by
  obtain ⟨p, dx, fs, q, rfl, hp, l1, l2, l3, l4, l5, l6, l7⟩ := h
  exact ⟨p, dx, fs, q, rfl, s _ _ hp, l1, l2, l3, l4, l5, l6.k s, l7⟩
theorem LaysAt.lk {C L D : Addr} {H H' : Hp} {vs : List V} {ys : List Ly} {xs : List V} (h : LaysAt K C L H vs ys) (hD : H D = some (.lst xs)) (b : Bx D H H') : LaysAt K C L H' vs ys := by
  induction h with
  | nil => exact .nil
  | cons a _ ih => exact .cons (a.lk hD b) ih
theorem LaysAt.k {C L : Addr} {H H' : Hp} {vs : List V} {ys : List Ly} (h : LaysAt K C L H vs ys) (s : Same H H') : LaysAt K C L H' vs ys := by
  induction h with
  | nil => exact .nil
  | cons a _ ih => exact .cons (a.k s) ih
theorem LaysAt.app {C L : Addr} {H : Hp} {vs ws : List V} {ys zs : List Ly} (h : LaysAt K C L H vs ys) (g : LaysAt K C L H ws zs) : LaysAt K C L H (vs ++ ws) (ys ++ zs) := by
  induction h with
  | nil => exact g
  | cons a _ ih => exact .cons a ih
theorem LaysAt.len {C L : Addr} {H : Hp} {vs : List V} {ys : List Ly} (h : LaysAt K C L H vs ys) : vs.length = ys.length := by
  induction h with
  | nil => rfl
  | cons a _ ih => rw [List.length_cons, List.length_cons, ih]
theorem LaysAt.at {C L : Addr} {H : Hp} {vs : List V} {ys : List Ly} (h : LaysAt K C L H vs ys) : ∀ (i : Nat) (v : V), vs[i]? = some v → ∃ y, ys[i]? = some y ∧ LayAt K C L H v y := by
  induction h with
  | nil => exact fun i v e => by cases e
  | cons a _ ih =>
    intro i v e
    cases i with
    | zero => cases e; exact ⟨_, rfl, a⟩
    | succ i => exact ih i v e
def lyI (ds : List Nat) (kind : Str) (e a : Int) (lo i : Nat) : List Ly := ((List.range' lo i).filter fun k => !decide (trC ds a k e = [])).map (mkLy ds kind e a)
theorem lyI_succ (ds : List Nat) (kind : Str) (e a : Int) (lo i : Nat) : lyI ds kind e a lo (i + 1) = lyI ds kind e a lo i ++ if (!decide (trC ds a (lo + i) e = [])) = true then [mkLy ds kind e a (lo + i)] else [] := by
  unfold lyI
  rw [List.range'_concat, List.filter_append, List.map_append, Nat.one_mul]
  congr 1
  cases h : (!decide (trC ds a (lo + i) e = [])) <;> simp [List.filter_cons, h]
theorem lyI_len (ds : List Nat) (kind : Str) (e a : Int) (lo i : Nat) : (lyI ds kind e a lo i).length ≤ i := by
  unfold lyI
  rw [List.length_map]
  exact Nat.le_trans (List.length_filter_le _ _) (by rw [List.length_range']; exact Nat.le_refl _)
theorem ok_lays_from (T : Txt K mg) : FnOk P w K mg base CX0 8 T.a_lays_from T.d_lays_from ["self", "kind", "at", "least", "most"] (sp_lays_from K T.C T.TC T.L) := by
  refine T.F_lays_from.ok sc_lays_from (fun vs H Q E h => ?_) (fun cdv A outer s H vs Q E hr h => ?_)
  · obtain ⟨p, kind, a, lo, m, ds, ns, e, rfl, _⟩ := h
    rfl
  · obtain ⟨p, kind, a, lo, m, ds, ns, e, rfl, hT, N, m8, lo8, k⟩ := h
    obtain ⟨dx, fs, q, kn, kvs, hp, l1, l2, l3, l4, hq, l5, hk, vk, l6⟩ := id hT
    have l100 := len_le N
    have l0 := len_pos ds
    have gl := good_le ds ns e a m
    refine ⟨_, (pss_cons (ps_set (i := 5) sc_lays_from.nd rfl (Or.inl rfl) (pe_lst pa_nil))
      (pss_cons (ps_for PassesOwn.never rfl (pi_range2 (by rfl) T.z_range (pa_cons (pv 3) (pa_cons (pe_op op_add (pe_meth (pv 0) T.clTC T.m_good_rounds (ok_good_rounds T) (hr.mono (by decide)) T.b_good_rounds .nil pass0 (pa_cons (pv 2) (pa_cons (pv 4) pa_nil))) pe_int) pa_nil))) (pg_name (i := 6) sc_lays_from.nd rfl (Or.inl rfl))
        (pss_cons (ps_set (i := 7) sc_lays_from.nd rfl (Or.inl rfl) (pe_call (ok_train_strokes T) (hr.mono (by decide)) (by rfl) T.g_train_strokes T.F_train_strokes.kp T.b_train_strokes .nil Mk1.passF (pa_cons (pe_fld (pv 0) rfl) (pa_cons (pv 2) (pa_cons (pv 6) (pa_cons (pe_fld (pv 0) rfl) pa_nil))))))
        (pss_one (ps_if (pt_cmpR op_gt (pe_callB (Ow.call_len (E := E0) T.aLen T.iLen ((ok_len T).raw T.b_len .nil) (hr.mono (by decide)) pass0) (by rfl) T.z_len (by decide +kernel) (pa_cons (pv 7) pa_nil)) pe_int (nomark _))
          (pss_one (ps_expr (pe_bm PySem.F.plainAttrs_list PySem.F.slot_list_append PySem.F.type_list_append mt_append (pv 5) (pa_cons (pe_make T.mk_linit (ok_linit T) (hr.mono (by decide)) (by rfl) T.gL T.b_linit .nil pass0 (pa_cons (pe_fld (pv 0) rfl) (pa_cons (pv 1) (pa_cons (pv 2) (pa_cons (pv 6) (pa_cons (pv 7) (pa_cons (pe_op op_add (pv 2) (pe_op op_mul (pv 6) (pe_fld (pv 0) rfl))) pa_nil))))))) pa_nil))))
          pss_nil))))
      (pss_one (ps_ret (pv 5))))), ?_⟩
    refine ⟨by show 0 ≤ sizeLine; decide, fun D hD => ?_⟩
    have sD := same_new (o := .lst []) hD
    have fD : upd H D (.lst []) D = some (.lst []) := upd_same
    generalize upd H D (.lst []) = H1 at sD fD ⊢
    refine ⟨_, rfl, _, rfl, p, dx, fs, rfl, sD _ _ hp, no_m "good_rounds" (by decide +kernel) (by decide +kernel) (by decide +kernel) (by decide +kernel) (by decide +kernel) l6, _, rfl, _, rfl, p, a, m, ds, ns, e, rfl, hT.k sD, N, m8, ?_⟩
    refine ⟨_, _, rfl, rfl, _, _, rfl, ⟨by omega, by omega, by omega, by omega⟩, ?_⟩
    rw [show (((goodN ds ns e a m : Nat) : Int) + 1 - ((lo : Nat) : Int)).toNat = goodN ds ns e a m + 1 - lo by omega]
    refine for_range (fun i σ A => ∃ v6 v7 xs, σ = [some (.ref p), some (.str kind), some (.int a), some (.int (lo : Nat)), some (.int (m : Nat)), some (.ref D), v6, v7] ∧ Same H A ∧ A D = some (.lst xs) ∧ LaysAt K T.C T.L A xs (lyI ds kind e a lo i))
      ⟨none, none, [], rfl, sD, fD, .nil⟩ (fun i σ A hi hP => ?_) (fun σ A hP => ?_)
    · obtain ⟨v6, v7, xs, rfl, sA, hL, hLs⟩ := hP
      rw [show ((lo : Nat) : Int) + ((i : Nat) : Int) = ((lo + i : Nat) : Int) from (Int.natCast_add ..).symm]
      have n8 : lo + i ≤ 8 := by omega
      have ll := hLs.len
      have ll2 := lyI_len ds kind e a lo i
      refine ⟨_, rfl, p, T.TC, dx, fs, _, rfl, sA _ _ hp, T.clTC, T.nNu, l2, _, rfl, _, rfl, _, rfl, p, T.TC, dx, fs, _, rfl, sA _ _ hp, T.clTC, T.nSp, l1, ?_⟩
      refine ⟨_, _, a, lo + i, e, rfl, ob_num N, n8, fun ds' N' e' A1 r s1 r0 hr => ?_, fun w => absurd ⟨ds, N, rfl⟩ w⟩
      have e0 : ds = ds' := numS_inj (V.str.inj e')
      subst e0
      have few := (trC_off N a n8 e).few
      obtain ⟨dxr, fsr, qr, hr1, r1, r2, r3⟩ := id hr
      have sA1 := sA.trans s1
      have hL1 := s1 _ _ hL
      refine ⟨_, rfl, r, dxr, fsr, rfl, hr1, r, _, rfl, hr, by omega, _, rfl, by omega, by omega, _, _, rfl, rfl, _, rfl, ite2 (fun c => ?_) (fun c => ?_)⟩
      · have hp1 := sA1 _ _ hp
        refine ⟨_, rfl, .inl ⟨rfl, _, SqL.of hL1⟩, ?_⟩
        refine ⟨_, rfl, p, T.TC, dx, fs, _, rfl, hp1, T.clTC, T.nNu, l2, _, rfl, _, rfl, _, rfl, _, rfl, _, rfl, _, rfl, _, rfl, p, T.TC, dx, fs, _, rfl, hp1, T.clTC, T.nLe, l3, _, _, rfl, rfl, .inl ⟨by omega, by omega⟩, _, _, rfl, rfl, ?_⟩
        refine fun x dy hx hdy nex => ?_
        have m1 := made (C := T.L) hx hdy nex
        have rx : r ≠ x := ne_of_none hr1 hx
        refine ⟨x, dy, r, ds, kind, a, lo + i, _, _, rfl, upd_same, rx, hr.k m1, fun A2 off hLay => ⟨rfl, ?_⟩⟩
        have s2 := made_off hx hdy nex off
        have hL2 := s2 _ _ hL1
        refine ⟨D, xs, _, rfl, rfl, hL2, small1000 (by omega), ?_⟩
        refine ⟨_, _, xs ++ [.ref x], rfl, same_mut (sA1.trans s2) hD, upd_same, ?_⟩
        have ne : (!decide (trC ds a (lo + i) e = [])) = true := by
          have : ¬ trC ds a (lo + i) e = [] := fun z => by
            have h := of_decide_eq_true c
            rw [z] at h
            exact absurd h (by decide)
          rw [decide_eq_false this]
          rfl
        rw [lyI_succ, if_pos ne]
        exact ((hLs.k (s1.trans s2)).lk hL2 Bx.put).app (.cons (LayAt.lk hLay hL2 Bx.put) .nil)
      · refine ⟨_, _, xs, rfl, sA1, hL1, ?_⟩
        have ne : trC ds a (lo + i) e = [] := List.eq_nil_of_length_eq_zero (by
          have : ¬ (0 : Int) < ((trC ds a (lo + i) e).length : Nat) := fun z => c (decide_eq_true z)
          omega)
        rw [lyI_succ, ne]
        simp only [decide_true, Bool.not_true, Bool.false_eq_true, if_false, List.append_nil]
        exact hLs.k s1
    · obtain ⟨v6, v7, xs, rfl, sA, hL, hLs⟩ := hP
      exact ⟨_, rfl, k _ D xs sA hD hL hLs⟩
end
end K15

namespace K15
open PySem L2 Wm TL Dv
section
variable {P : Program} {w : World} {K : PySem.W.Frag} {mg : Str → Option Value} {base : Heap}
theorem cutL_len (e : Int) (ns : List Int) : (cutL e ns).length ≤ ns.length := List.length_filter_le _ _
theorem lyL_len (ds : List Nat) (kind : Str) (ns : List Int) (e a : Int) (lo m : Nat) : (lyL ds kind ns e a lo m).length ≤ m + 1 - lo := by
  have h : (lyL ds kind ns e a lo m).length ≤ goodN ds ns e a m + 1 - lo := by
    unfold lyL
    rw [List.length_map]
    exact Nat.le_trans (List.length_filter_le _ _) (by rw [List.length_range']; exact Nat.le_refl _)
  have := good_le ds ns e a m
  omega
def puI (ds : List Nat) (ns : List Int) (e : Int) (n i : Nat) : List Ly := ((cutL e ns).take i).flatMap fun a => lyL ds "pull" ns e a n n
theorem puI_succ {ds : List Nat} {ns : List Int} {e : Int} {n i : Nat} {z : Int} (h : (cutL e ns)[i]? = some z) : puI ds ns e n (i + 1) = puI ds ns e n i ++ lyL ds "pull" ns e z n n := by
  unfold puI
  rw [tk_succ h, List.flatMap_append, List.flatMap_singleton]
theorem puI_len (ds : List Nat) (ns : List Int) (e : Int) (n : Nat) : ∀ i, i ≤ (cutL e ns).length → (puI ds ns e n i).length ≤ i
  | 0, _ => by unfold puI; simp
  | i + 1, h => by
    have hz : (cutL e ns)[i]? = some (cutL e ns)[i] := List.getElem?_eq_getElem (by omega)
    rw [puI_succ hz, List.length_append]
    have := puI_len ds ns e n i (by omega)
    have := lyL_len ds "pull" ns e (cutL e ns)[i] n n
    omega
def taI (ds : List Nat) (ns : List Int) (e : Int) (n i : Nat) : List Ly := (List.range i).flatMap fun (t : Nat) => lyL ds "tail" ns e (-(1 + (t : Int))) 1 n
theorem taI_succ (ds : List Nat) (ns : List Int) (e : Int) (n i : Nat) : taI ds ns e n (i + 1) = taI ds ns e n i ++ lyL ds "tail" ns e (-(1 + (i : Int))) 1 n := by
  unfold taI
  rw [List.range_succ, List.flatMap_append, List.flatMap_singleton]
theorem taI_len (ds : List Nat) (ns : List Int) (e : Int) (n : Nat) (h : n ≤ 8) : ∀ i, (taI ds ns e n i).length ≤ 8 * i
  | 0 => by unfold taI; simp
  | i + 1 => by
    rw [taI_succ, List.length_append]
    have := taI_len ds ns e n h i
    have := lyL_len ds "tail" ns e (-(1 + (i : Int))) 1 n
    omega
theorem TrainAt.lk {TC p D : Addr} {H : Hp} {ds : List Nat} {ns : List Int} {e : Int} {xs : List V} {o : HO} (h : TrainAt K TC H p ds ns e) (hD : H D = some (.lst xs)) : TrainAt K TC (upd H D o) p ds ns e := by
  obtain ⟨dx, fs, q, kn, kvs, hp, l1, l2, l3, l4, hq, l5, hk, vk, l6⟩ := h
  exact ⟨dx, fs, q, kn, kvs, by rw [upd_ne (fun e => by rw [e, hD] at hp; cases hp)]; exact hp, l1, l2, l3, l4, Kt.lst hD _ _ hq, l5, by rw [upd_ne (fun e => by rw [e, hD] at hk; cases hk)]; exact hk, vk, l6⟩
def preA (ds : List Nat) (ns : List Int) (e : Int) (n : Nat) : Ca → List Ly
  | .quiet => []
  | _ => lyL ds "train" ns e 0 1 (n - 1)
theorem preA_len (ds : List Nat) (ns : List Int) (e : Int) (n : Nat) (c : Ca) (h : n ≤ 8) : (preA ds ns e n c).length ≤ 8 := by
  cases c with
  | quiet => exact Nat.zero_le _
  | train => have := lyL_len ds "train" ns e 0 1 (n - 1); show (lyL ds "train" ns e 0 1 (n - 1)).length ≤ 8; omega
  | key => have := lyL_len ds "train" ns e 0 1 (n - 1); show (lyL ds "train" ns e 0 1 (n - 1)).length ≤ 8; omega
theorem pre_len (ds : List Nat) (ns : List Int) (e : Int) (n : Nat) (c : Ca) (N : Num ds) (h : n ≤ 8) : (preL ds ns e n c).length ≤ 850 := by
  have l := row_le ds N
  cases c with
  | quiet => exact Nat.zero_le _
  | train => have := lyL_len ds "train" ns e 0 1 (n - 1); show (lyL ds "train" ns e 0 1 (n - 1)).length ≤ 850; omega
  | key =>
    have h1 := lyL_len ds "train" ns e 0 1 (n - 1)
    have h2 := taI_len ds ns e n h ((rowL ds).length - 1)
    show (lyL ds "train" ns e 0 1 (n - 1) ++ taI ds ns e n ((rowL ds).length - 1)).length ≤ 850
    rw [List.length_append]
    omega
def nqB : Ca → Bool
  | .quiet => false
  | _ => true
def kyB : Ca → Bool
  | .key => true
  | _ => false
theorem caS_ne (c : Ca) : (!decide (V.str (caS c) = V.str ("quiet" : Str))) = nqB c := by cases c <;> decide +kernel
theorem caS_key (c : Ca) : decide (V.str (caS c) = V.str ("key" : Str)) = kyB c := by cases c <;> decide +kernel
theorem step_ly {C L TC x D r5 : Addr} {H A A1 : Hp} {ds : List Nat} {ns : List Int} {e : Int} {xs zs : List V} {ys ls : List Ly} (sA : Same H A) (fD : H D = none) (hTA : TrainAt K TC A x ds ns e) (hL : A D = some (.lst xs)) (hLs : LaysAt K C L A xs ys)
    (s5 : Same A A1) (hys : LaysAt K C L A1 zs ls) : Same H (upd A1 D (.lst (xs ++ zs))) ∧ TrainAt K TC (upd A1 D (.lst (xs ++ zs))) x ds ns e ∧ upd A1 D (.lst (xs ++ zs)) D = some (.lst (xs ++ zs)) ∧ LaysAt K C L (upd A1 D (.lst (xs ++ zs))) (xs ++ zs) (ys ++ ls) := by
  have hL1 := s5 _ _ hL
  exact ⟨same_mut (sA.trans s5) fD, (hTA.k s5).lk hL1, upd_same, ((hLs.k s5).lk hL1 Bx.put).app (hys.lk hL1 Bx.put)⟩
theorem ok_plain_lays (T : Txt K mg) : FnOk P w K mg base CX0 9 T.a_plain_lays T.d_plain_lays ["pattern", "span", "number", "rounds", "case"] (sp_plain_lays K T.C T.L) := by
  refine T.F_plain_lays.ok sc_plain_lays (fun vs H Q E h => ?_) (fun cdv A outer s H vs Q E hr h => ?_)
  · obtain ⟨p, ds, ns, e, n, c, rfl, _⟩ := h
    rfl
  · obtain ⟨p, ds, ns, e, n, c, rfl, N, hS, O, few, n1, n8, k⟩ := h
    have cl := cutL_len e ns
    have rw0 := row_le ds N
    refine ⟨_, (pss_cons (ps_set (i := 5) sc_plain_lays.nd rfl (Or.inl rfl) (pe_make T.mk_tinit (ok_tinit T) (hr.mono (by decide)) (by rfl) T.gTC T.b_tinit .nil pass0 (pa_cons (pv 0) (pa_cons (pv 1) (pa_cons (pv 2) pa_nil)))))
      (pss_cons (ps_set (i := 6) sc_plain_lays.nd rfl (Or.inl rfl) (pe_lst pa_nil))
      (C8.pss_cut (ps_if (pt_cmpR op_ne (pv 4) (pe_glob (v := V.str "quiet") rfl T.c_QUIET ⟨_, rfl⟩) (nomark _))
        (pss_one (ps_expr (pe_bm PySem.F.plainAttrs_list PySem.F.slot_list_extend PySem.F.type_list_extend mt_extend (pv 6) (pa_cons (pe_meth (pv 5) T.clTC T.m_lays_from (ok_lays_from T) (hr.mono (by decide)) T.b_lays_from .nil pass0 (pa_cons pe_str (pa_cons pe_int (pa_cons pe_int (pa_cons (pe_op op_sub (pv 3) pe_int) pa_nil))))) pa_nil))))
        pss_nil)
      (C8.pss_cut (ps_if (pt_cmpR op_eq (pv 4) (pe_glob (v := V.str "key") rfl T.c_KEY ⟨_, rfl⟩) (nomark _))
        (pss_one (ps_for PassesOwn.never rfl (pi_range2 (by rfl) T.z_range (pa_cons pe_int (pa_cons (pe_call (ok_length_of T) (hr.mono (by decide)) (by rfl) T.g_length_of T.F_length_of.kp T.b_length_of .nil Mk1.passF (pa_cons (pv 2) pa_nil)) pa_nil))) (pg_name (i := 7) sc_plain_lays.nd rfl (Or.inl rfl))
          (pss_one (ps_expr (pe_bm PySem.F.plainAttrs_list PySem.F.slot_list_extend PySem.F.type_list_extend mt_extend (pv 6) (pa_cons (pe_meth (pv 5) T.clTC T.m_lays_from (ok_lays_from T) (hr.mono (by decide)) T.b_lays_from .nil pass0 (pa_cons pe_str (pa_cons (pe_un un_neg (pv 7)) (pa_cons pe_int (pa_cons (pv 3) pa_nil))))) pa_nil))))))
        pss_nil)
      (pss_cons (ps_for PassesOwn.never rfl (show PI _ _ _ (Li.iOwnT K T.C (spA_iter K T.C) E0 (tMeth T.C "cut" (sp_cut K T.C) [] E0 (tVar 0) (tCons (tVar 1) tNil))) from (Li.pi_ownT T.aIt T.iIt (okA_iter T) (hr.mono (by decide)) (pe_meth (pv 0) T.clC T.m_cut (ok_cut T) (hr.mono (by decide)) T.b_cut .nil pass0 (pa_cons (pv 1) pa_nil)))) (pg_name (i := 8) sc_plain_lays.nd rfl (Or.inl rfl))
        (pss_one (ps_expr (pe_bm PySem.F.plainAttrs_list PySem.F.slot_list_extend PySem.F.type_list_extend mt_extend (pv 6) (pa_cons (pe_meth (pv 5) T.clTC T.m_lays_from (ok_lays_from T) (hr.mono (by decide)) T.b_lays_from .nil pass0 (pa_cons pe_str (pa_cons (pv 8) (pa_cons (pv 3) (pa_cons (pv 3) pa_nil))))) pa_nil)))))
      (pss_one (ps_ret (pv 6)))))))), ?_⟩
    refine ⟨_, rfl, _, rfl, _, rfl, fun x dy hx hdy ne => ?_⟩
    have m1 := made (C := T.TC) hx hdy ne
    obtain ⟨dx0, fs0, q0, h01, _, _, _⟩ := id hS
    have px : p ≠ x := ne_of_none h01 hx
    refine ⟨x, dy, p, ds, ns, e, rfl, upd_same, px, N, hS.k m1, O, fun H1 off hT => ⟨rfl, ?_⟩⟩
    have s1 := made_off hx hdy ne off
    refine ⟨by show 0 ≤ sizeLine; decide, fun D hD => ?_⟩
    have fD := s1.free hD
    have sD := s1.trans (same_new (o := .lst []) hD)
    have hT2 := hT.k (same_new (o := .lst []) hD)
    have f2 : upd H1 D (.lst []) D = some (.lst []) := upd_same
    generalize upd H1 D (.lst []) = H2 at sD hT2 f2 ⊢
    refine ⟨fun σ A => σ = [some (.ref p), some (.int e), some (.str (numS ds)), some (.int (n : Nat)), some (.str (caS c)), some (.ref x), some (.ref D), none, none] ∧ ∃ xs, Same H A ∧ TrainAt K T.TC A x ds ns e ∧ A D = some (.lst xs) ∧ LaysAt K T.C T.L A xs (preA ds ns e n c), ?_, ?_⟩
    · refine ⟨_, rfl, rfl, _, rfl, ?_⟩
      rw [caS_ne]
      by_cases q : c = .quiet
      · subst q
        exact iteF ⟨rfl, [], sD, hT2, f2, .nil⟩
      · have e1 : nqB c = true := by cases c <;> first | rfl | exact absurd rfl q
        have e2 : preA ds ns e n c = lyL ds "train" ns e 0 1 (n - 1) := by cases c <;> first | rfl | exact absurd rfl q
        rw [e1]
        refine iteT ?_
        obtain ⟨dxT, fsT, qT, kn, kvs, hpT, _, _, _, _, _, _, _, _, l6⟩ := id hT2
        refine ⟨_, rfl, .inl ⟨rfl, _, SqL.of f2⟩, ?_⟩
        refine ⟨_, rfl, x, dxT, fsT, rfl, hpT, no_m "lays_from" (by decide +kernel) (by decide +kernel) (by decide +kernel) (by decide +kernel) (by decide +kernel) l6, _, rfl, _, _, rfl, rfl, x, "train", 0, 1, n - 1, ds, ns, e, ?_, hT2, N, by omega, by decide, fun A1 r5 ys s5 r50 hr5 hys => ?_⟩
        · show [V.ref x, V.str "train", V.int 0, V.int 1, V.int ((n : Int) - 1)] = _
          rw [show ((n : Nat) : Int) - 1 = ((n - 1 : Nat) : Int) by omega]
          rfl
        have ll := hys.len
        have := lyL_len ds "train" ns e 0 1 (n - 1)
        refine ⟨D, r5, [], ys, rfl, rfl, s5 _ _ f2, hr5, Nat.le_of_lt (small1000 (by show 0 + ys.length ≤ 1000; omega)), ?_⟩
        rw [e2]
        obtain ⟨a1, a2, a3, a4⟩ := step_ly (r5 := r5) sD fD hT2 f2 (.nil : LaysAt K T.C T.L H2 [] []) s5 hys
        exact ⟨rfl, _, a1, a2, a3, a4⟩
    rintro σ A ⟨rfl, xs, sA, hTA, hL, hLs⟩
    refine ⟨fun σ A => ∃ v7, σ = [some (.ref p), some (.int e), some (.str (numS ds)), some (.int (n : Nat)), some (.str (caS c)), some (.ref x), some (.ref D), v7, none] ∧ ∃ xs, Same H A ∧ TrainAt K T.TC A x ds ns e ∧ A D = some (.lst xs) ∧ LaysAt K T.C T.L A xs (preL ds ns e n c), ?_, ?_⟩
    · refine ⟨_, rfl, rfl, _, rfl, ?_⟩
      rw [caS_key]
      by_cases q : c = .key
      · subst q
        refine iteT ?_
        have pl := preA_len ds ns e n .key n8
        refine ⟨_, rfl, _, _, rfl, ob_num N, fun ds' N' e' A0 s0 => ?_, fun m => absurd ⟨ds, N, rfl⟩ m⟩
        obtain rfl := numS_inj (V.str.inj e')
        refine ⟨_, _, rfl, ⟨by omega, by omega, by omega, by omega⟩, ?_⟩
        rw [show ((((rowL ds).length : Nat) : Int) - 1).toNat = (rowL ds).length - 1 by omega]
        refine for_range (fun i σ A => ∃ v7, σ = [some (.ref p), some (.int e), some (.str (numS ds)), some (.int (n : Nat)), some (.str (caS .key)), some (.ref x), some (.ref D), v7, none] ∧ ∃ xs, Same H A ∧ TrainAt K T.TC A x ds ns e ∧ A D = some (.lst xs) ∧ LaysAt K T.C T.L A xs (preA ds ns e n .key ++ taI ds ns e n i))
          ⟨none, rfl, xs, sA.trans s0, hTA.k s0, s0 _ _ hL, by unfold taI; simp; exact hLs.k s0⟩ (fun i σ A hi hP => ?_) (fun σ A hP => hP)
        obtain ⟨v7, rfl, xs, sA, hTA, hL, hLs⟩ := hP
        obtain ⟨dxT, fsT, qT, kn, kvs, hpT, _, _, _, _, _, _, _, _, l6⟩ := id hTA
        refine ⟨_, rfl, .inl ⟨rfl, _, SqL.of hL⟩, ?_⟩
        refine ⟨_, rfl, x, dxT, fsT, rfl, hpT, no_m "lays_from" (by decide +kernel) (by decide +kernel) (by decide +kernel) (by decide +kernel) (by decide +kernel) l6, _, rfl, _, rfl, _, rfl, x, "tail", _, 1, n, ds, ns, e, rfl, hTA, N, n8, by decide, fun A1 r5 ys s5 r50 hr5 hys => ?_⟩
        have ll := hLs.len
        have ly := hys.len
        rw [List.length_append] at ll
        have h1 := taI_len ds ns e n n8 i
        have h2 := lyL_len ds "tail" ns e (-(1 + (i : Int))) 1 n
        refine ⟨D, r5, xs, ys, rfl, rfl, s5 _ _ hL, hr5, Nat.le_of_lt (small1000 (by omega)), ?_⟩
        obtain ⟨a1, a2, a3, a4⟩ := step_ly (r5 := r5) sA fD hTA hL hLs s5 hys
        refine ⟨_, rfl, _, a1, a2, a3, ?_⟩
        rw [taI_succ, ← List.append_assoc]
        exact a4
      · have e1 : kyB c = false := by cases c <;> first | rfl | exact absurd rfl q
        have e2 : preL ds ns e n c = preA ds ns e n c := by cases c <;> first | rfl | exact absurd rfl q
        rw [e1]
        refine iteF ⟨_, rfl, xs, sA, hTA, hL, ?_⟩
        rw [e2]
        exact hLs
    rintro σ B ⟨v7, rfl, xs, sB, hTB, hB, hBs⟩
    have hS2 := hS.k sB
    obtain ⟨dx1, fs1, q1, h11, h12, h13, h14⟩ := id hS2
    refine ⟨_, rfl, p, dx1, fs1, rfl, h11, h13 "cut" (by decide +kernel), _, rfl, p, ns, e, rfl, hS2, O, fun H3 r s3 r0 hr => ?_⟩
    obtain ⟨dxr, fsr, qr, hr1, hr2, hr3, hr4⟩ := id hr
    refine ⟨r, dxr, fsr, rfl, hr1, fun m => ⟨r, qr, cutL e ns, rfl, ⟨dxr, fsr, hr1, hr2, hr4⟩, fun it f1 le => ⟨it, qr, _, rfl, le, upd_same, sameT (same_new f1) hr4, ?_⟩⟩⟩
    rw [drop_new f1]
    have pl := pre_len ds ns e n c N n8
    refine for_tup (xs := (cutL e ns).map V.int) (fun i σ A => ∃ v8 xs, σ = [some (.ref p), some (.int e), some (.str (numS ds)), some (.int (n : Nat)), some (.str (caS c)), some (.ref x), some (.ref D), v7, v8] ∧ SqT K A qr ((cutL e ns).map V.int) ∧ Same H A ∧ TrainAt K T.TC A x ds ns e ∧ A D = some (.lst xs) ∧ LaysAt K T.C T.L A xs (preL ds ns e n c ++ puI ds ns e n i) ∧ i ≤ (cutL e ns).length)
      ⟨none, xs, rfl, hr4, sB.trans s3, hTB.k s3, s3 _ _ hB, by unfold puI; simp; exact hBs.k s3, Nat.zero_le _⟩ (fun i σ A _ hP => by obtain ⟨_, _, _, h, _⟩ := hP; exact h) (fun i v σ A hv hP => ?_) (fun σ A hP => ?_)
    · obtain ⟨v8, xs, rfl, hqA, sA, hTA, hL, hLs, ile⟩ := hP
      rw [List.getElem?_map] at hv
      obtain ⟨z, hz, rfl⟩ := Option.map_eq_some_iff.mp hv
      have hi := (List.getElem?_eq_some_iff.mp hz).1
      obtain ⟨dxT, fsT, qT, kn, kvs, hpT, _, _, _, _, _, _, _, _, l6⟩ := id hTA
      refine ⟨_, rfl, .inl ⟨rfl, _, SqL.of hL⟩, ?_⟩
      refine ⟨_, rfl, x, dxT, fsT, rfl, hpT, no_m "lays_from" (by decide +kernel) (by decide +kernel) (by decide +kernel) (by decide +kernel) (by decide +kernel) l6, _, rfl, _, rfl, _, rfl, x, "pull", z, n, n, ds, ns, e, rfl, hTA, N, n8, n8, fun A1 r5 ys s5 r50 hr5 hys => ?_⟩
      have ll := hLs.len
      have ly := hys.len
      rw [List.length_append] at ll
      have l1 := puI_len ds ns e n i ile
      have l2 := lyL_len ds "pull" ns e z n n
      have hL1 := s5 _ _ hL
      refine ⟨D, r5, xs, ys, rfl, rfl, hL1, hr5, Nat.le_of_lt (small1000 (by omega)), ?_⟩
      obtain ⟨a1, a2, a3, a4⟩ := step_ly (r5 := r5) sA fD hTA hL hLs s5 hys
      refine ⟨_, xs ++ ys, rfl, Kt.lst hL1 _ _ (sameT s5 hqA), a1, a2, a3, ?_, hi⟩
      rw [puI_succ hz, ← List.append_assoc]
      exact a4
    · obtain ⟨v8, xs, rfl, hqA, sA, hTA, hL, hLs, ile⟩ := hP
      refine ⟨_, rfl, k _ D xs sA fD hL ?_⟩
      unfold puI at hLs
      rw [List.length_map, List.take_length] at hLs
      exact hLs
end
end K15

namespace K15
open PySem L2 Wm TL Dv
section
variable {P : Program} {w : World} {K : PySem.W.Frag} {mg : Str → Option Value} {base : Heap}
theorem ok_facts (T : Txt K mg) : FnOk P w K mg base CX0 1 T.a_facts T.d_facts ["self"] (sp_facts K T.C T.L) := by
  refine T.F_facts.ok sc_facts (fun vs H Q E h => ?_) (fun cdv A outer s H vs Q E hr h => ?_)
  · obtain ⟨p, y, rfl, _⟩ := h
    rfl
  · obtain ⟨p, y, rfl, ⟨p', dx, fs, q, e, hp, l1, l2, l3, l4, l5, l6, l7⟩, k⟩ := h
    cases e
    refine ⟨_, (pss_one (ps_ret (pe_tup (pa_cons (pe_fld (pv 0) rfl) (pa_cons (pe_fld (pv 0) rfl) (pa_cons (pe_fld (pv 0) rfl) (pa_cons (pe_fld (pv 0) rfl) pa_nil))))))), ?_⟩
    refine ⟨_, rfl, p, T.L, dx, fs, _, rfl, hp, T.clL, T.nN, l1, _, rfl, p, T.L, dx, fs, _, rfl, hp, T.clL, T.nK, l2, _, rfl, p, T.L, dx, fs, _, rfl, hp, T.clL, T.nA, l3, _, rfl, p, T.L, dx, fs, _, rfl, hp, T.clL, T.nR, l4, by show 4 ≤ sizeLine; decide, fun t ht => ?_⟩
    exact k _ t (same_new ht) upd_same
theorem headL_off {ds : List Nat} (N : Num ds) (ns : List Int) : (headL ds ns).length ≤ 24 := by
  have h1 : (cutO (backO ds ns) (SI ds)).length ≤ (SI ds).length := cutO_len
  have h2 := SI_lens N
  have h3 := N.sum
  unfold headL
  split
  · omega
  · exact Nat.zero_le _
theorem ok_shy_lays (T : Txt K mg) : FnOk P w K mg base CX0 9 T.a_shy_lays T.d_shy_lays ["pattern", "span", "number", "case"] (sp_shy_lays K T.C T.L) := by
  refine T.F_shy_lays.ok sc_shy_lays (fun vs H Q E h => ?_) (fun cdv A outer s H vs Q E hr h => ?_)
  · obtain ⟨p, ds, ns, e, c, rfl, _⟩ := h
    rfl
  · obtain ⟨p, ds, ns, e, c, rfl, N, hS, O, k⟩ := h
    have hl := headL_off N ns
    refine ⟨_, (pss_cons (ps_set (i := 4) sc_shy_lays.nd rfl (Or.inl rfl) (pe_call (ok_head_of T) (hr.mono (by decide)) (by rfl) T.g_head_of T.F_head_of.kp T.b_head_of .nil Mk1.passF (pa_cons (pv 2) (pa_cons (pv 0) pa_nil))))
      (pss_cons (ps_if (PW.pt (pw_or (pt_cmpR op_ne (pv 3) (pe_glob (v := V.str "quiet") rfl T.c_QUIET ⟨_, rfl⟩) (nomark _)) (pw_or1 (pt_cmpR op_eq (pe_callB (Ow.call_len (E := E0) T.aLen T.iLen ((ok_len T).raw T.b_len .nil) (hr.mono (by decide)) pass0) (by rfl) T.z_len (by decide +kernel) (pa_cons (pv 4) pa_nil)) pe_int (nomark _)))))
        (pss_one (ps_ret (pe_lst pa_nil)))
        pss_nil)
      (pss_one (ps_ret (pe_lst (pa_cons (pe_make T.mk_linit (ok_linit T) (hr.mono (by decide)) (by rfl) T.gL T.b_linit .nil pass0 (pa_cons (pv 2) (pa_cons pe_str (pa_cons pe_int (pa_cons pe_int (pa_cons (pv 4) (pa_cons (pv 1) pa_nil))))))) pa_nil)))))), ?_⟩
    refine ⟨_, rfl, _, rfl, _, _, p, ns, rfl, ob_num N, hS, O, fun ds' N' e' H1 r s1 r0 hr => ?_, fun m => absurd ⟨ds, N, rfl⟩ m⟩
    obtain rfl := numS_inj (V.str.inj e')
    obtain ⟨dxr, fsr, qr, hr1, _, _, _⟩ := id hr
    refine ⟨_, rfl, rfl, _, rfl, ?_⟩
    rw [caS_ne]
    by_cases q : c = .quiet
    · subst q
      refine iteF ?_
      refine ⟨_, rfl, r, dxr, fsr, rfl, hr1, r, _, rfl, hr, by omega, _, rfl, by omega, by omega, rfl, _, rfl, ite2 (fun c => ?_) (fun c => ?_)⟩
      · have e0 : headL ds ns = [] := List.eq_nil_of_length_eq_zero (by have := V.int.inj (of_decide_eq_true c); omega)
        refine ⟨by show 0 ≤ sizeLine; decide, fun D hD => ?_⟩
        refine k _ D [] (s1.trans (same_new hD)) (s1.free hD) upd_same ?_
        unfold shyL
        rw [if_pos e0]
        exact .nil
      · have e0 : ¬ headL ds ns = [] := fun z => c (by rw [z]; decide +kernel)
        refine ⟨_, rfl, _, rfl, _, rfl, fun x dy hx hdy nex => ?_⟩
        have m1 := made (C := T.L) hx hdy nex
        have rx : r ≠ x := ne_of_none hr1 hx
        refine ⟨x, dy, r, ds, "head", 0, 1, e, _, rfl, upd_same, rx, hr.k m1, fun A2 off hLay => ⟨rfl, ?_⟩⟩
        have s2 := made_off hx hdy nex off
        refine ⟨by show 1 ≤ sizeLine; decide, fun D hD => ?_⟩
        have sN := same_new (o := .lst [V.ref x]) hD
        refine k _ D [.ref x] ((s1.trans s2).trans sN) ((s1.trans s2).free hD) upd_same ?_
        unfold shyL
        rw [if_neg e0]
        exact .cons (hLay.k sN) .nil
    · have e1 : nqB c = true := by cases c <;> first | rfl | exact absurd rfl q
      have e2 : shyL ds ns e c = [] := by cases c <;> first | rfl | exact absurd rfl q
      rw [e1]
      refine iteT ?_
      refine ⟨by show 0 ≤ sizeLine; decide, fun D hD => ?_⟩
      refine k _ D [] (s1.trans (same_new hD)) (s1.free hD) upd_same ?_
      rw [e2]
      exact .nil
end
end K15

namespace K15
open PySem L2 Wm TL Dv
section
variable {P : Program} {w : World} {K : PySem.W.Frag} {mg : Str → Option Value} {base : Heap}
theorem dig_text_int {d : Nat} (h : 1 ≤ d ∧ d ≤ 9) : PySem.intText? ⟨#[d + 48]⟩ = some (d : Int) := dig_int h
theorem eqv_lst (a b : List Int) : PyData.eqv (.list (a.map PyData.int)) (.list (b.map PyData.int)) = decide (a = b) := by
  unfold PyData.eqv
  exact eqv_ints a b
theorem shl (ns : List Int) : SeqAt.shaped (.list (ns.map PyData.int)) = true := PySem.W.ke_shaped_ints ns
theorem ok_row (T : Txt K mg) : FnOk P w K mg base CX0 1 T.a_row T.d_row ["_law_number_here"] (sp_row K) := by
  refine T.F_row.ok sc_row (fun vs H Q E h => ?_) (fun cdv A outer s H vs Q E hr h => ?_)
  · obtain ⟨ds, rfl, _⟩ := h
    rfl
  · obtain ⟨ds, rfl, N, k⟩ := h
    refine ⟨_, (pss_cons (ps_set (i := 1) sc_row.nd rfl (Or.inl rfl) (pe_lst pa_nil))
      (pss_cons (ps_for PassesOwn.never rfl (pi_str (pv 0)) (pg_name (i := 2) sc_row.nd rfl (Or.inl rfl))
        (pss_one (ps_set (i := 1) sc_row.nd rfl (Or.inl rfl) (pe_op op_cat (pe_op op_cat (pv 1) (pe_op op_rep (pe_lst (pa_cons pe_int (pa_cons pe_int pa_nil))) (pe_callTy call_int_str (by rfl) T.z_int (by decide +kernel) (pa_cons (pv 2) pa_nil)))) (pe_lst (pa_cons pe_int (pa_cons pe_int pa_nil)))))))
      (pss_one (ps_ret (pe_op op_cat (pv 1) (pe_lst (pa_cons pe_int (pa_cons pe_int pa_nil)))))))), ?_⟩
    have nl := N.len
    refine ⟨by show 0 ≤ sizeLine; exact Nat.zero_le _, fun r0 hr0 => ?_⟩
    have s0 := same_new (o := .lst []) hr0
    refine ⟨_, rfl, _, rfl, ?_⟩
    refine for_it walk_str (fun i σ A => ∃ r v, σ = [some (.str (numS ds)), some (.ref r), v] ∧ Same H A ∧ H r = none ∧ A r = some (.lst ((Wm.pre (ds.take i)).map V.int)))
      ⟨r0, none, rfl, s0, hr0, upd_same⟩ (fun _ _ _ _ _ => trivial) (fun i x σ A A' hi hP hY => ?_) (fun σ A hP => ?_)
    · obtain ⟨r, v, rfl, sm, fr, hL⟩ := hP
      obtain ⟨rfl, c, hc, rfl⟩ := hY
      rw [numS_size] at hi
      rw [numS_at ds i hi] at hc
      have hc' := (Option.some.inj hc).symm
      subst hc'
      have hd := N.dig _ (List.getElem_mem hi)
      have hp9 := pre_le (ds.take i) fun d m => (N.dig d (List.mem_of_mem_take m)).2
      rw [List.length_take] at hp9
      refine ⟨_, rfl, by show 2 ≤ sizeLine; decide, fun a ha => ?_⟩
      refine ⟨_, rfl, _, _, rfl, dig_int hd, (by show 1 ≤ 640; decide), ?_⟩
      have hL2 := at_old (u := .lst [V.int 1, V.int 0]) hL ha
      refine ⟨a, _, _, rfl, rfl, upd_same, by omega, by omega, by rw [Int.toNat_natCast]; show 2 * ds[i] ≤ _; exact Nat.le_of_lt (small1000 (by omega)), fun b hb => ?_⟩
      rw [Int.toNat_natCast, blk_V]
      have hL3 := at_old (u := .lst ((blk ds[i]).map V.int)) hL2 hb
      refine ⟨r, b, _, _, rfl, rfl, hL3, upd_same, by rw [List.length_map, List.length_map, blk_len]; exact Nat.le_of_lt (small1000 (by omega)), fun c2 hc2 => ?_⟩
      refine ⟨by show 2 ≤ sizeLine; decide, fun e he => ?_⟩
      refine ⟨c2, e, _, _, rfl, rfl, at_old upd_same he, upd_same, by rw [List.length_append, List.length_map, List.length_map, blk_len]; exact Nat.le_of_lt (small1000 (by show (Wm.pre (ds.take i)).length + 2 * ds[i] + 2 ≤ 1000; omega)), fun f hf => ?_⟩
      have sA := (((sm.trans (same_new (o := .lst [V.int 1, V.int 0]) ha)).trans (same_new (o := .lst ((blk ds[i]).map V.int)) hb)).trans (same_new (o := .lst ((Wm.pre (ds.take i)).map V.int ++ (blk ds[i]).map V.int)) hc2)).trans (same_new (o := .lst [V.int 0, V.int 0]) he)
      refine ⟨f, _, rfl, sA.trans (same_new hf), sA.free hf, ?_⟩
      rw [upd_same, tk_succ (List.getElem?_eq_getElem hi), pre_app]
      simp only [List.map_append, List.append_assoc]
      rfl
    · obtain ⟨r, v, rfl, sm, fr, hL⟩ := hP
      rw [numS_size, List.take_length] at hL
      have hp9 := pre_le ds fun d m => (N.dig d m).2
      refine ⟨_, rfl, by show 2 ≤ sizeLine; decide, fun e he => ?_⟩
      refine ⟨r, e, _, _, rfl, rfl, at_old hL he, upd_same, by rw [List.length_map]; exact Nat.le_of_lt (small1000 (by show (Wm.pre ds).length + 2 ≤ 1000; omega)), fun p hp => ?_⟩
      have sA := sm.trans (same_new (o := .lst [V.int 0, V.int 0]) he)
      refine k _ p (sA.trans (same_new hp)) (sA.free hp) ?_
      rw [upd_same, ← pre_row ds, List.map_append]
      rfl
end
end K15

namespace K15
open PySem L2 Wm TL Dv
section
variable {P : Program} {w : World} {K : PySem.W.Frag} {mg : Str → Option Value} {base : Heap}
theorem BoAt.k {H H' : Hp} {v : V} {x : Bo} (h : BoAt H v x) (s : Same H H') : BoAt H' v x := by
  obtain ⟨t, rfl, ht⟩ := h
  exact ⟨t, rfl, s _ _ ht⟩
theorem BosAt.k {H H' : Hp} {vs : List V} {xs : List Bo} (h : BosAt H vs xs) (s : Same H H') : BosAt H' vs xs := by
  induction h with
  | nil => exact .nil
  | cons a _ ih => exact .cons (a.k s) ih
theorem BosAt.len {H : Hp} {vs : List V} {xs : List Bo} (h : BosAt H vs xs) : vs.length = xs.length := by
  induction h with
  | nil => rfl
  | cons a _ ih => rw [List.length_cons, List.length_cons, ih]
theorem BosAt.at {H : Hp} {vs : List V} {xs : List Bo} (h : BosAt H vs xs) : ∀ (i : Nat) (v : V), vs[i]? = some v → ∃ x, xs[i]? = some x ∧ BoAt H v x := by
  induction h with
  | nil => exact fun i v e => by cases e
  | cons a _ ih =>
    intro i v e
    cases i with
    | zero => cases e; exact ⟨_, rfl, a⟩
    | succ i => exact ih i v e
theorem boxL_len {x : Bo} (N : Num x.1) {ns : List Int} {e : Int} {n : Nat} (c : Ca) (few : ns.length ≤ 100) (h : n ≤ 8) : (boxL ns e n c x).length ≤ 950 := by
  unfold boxL
  split
  · unfold plainL
    rw [List.length_append]
    have h1 := pre_len x.1 ns e n c N h
    have h2 : (puI x.1 ns e n (cutL e ns).length).length ≤ (cutL e ns).length := puI_len x.1 ns e n _ (Nat.le_refl _)
    have h3 := cutL_len e ns
    unfold puI at h2
    rw [List.take_length] at h2
    unfold pullL
    omega
  · cases c with
    | quiet =>
      show (if headL x.1 ns = [] then ([] : List Ly) else [⟨x.1, "head", 0, 1, headL x.1 ns, e⟩]).length ≤ 950
      by_cases q : headL x.1 ns = []
      · rw [if_pos q]; exact Nat.zero_le _
      · rw [if_neg q]; show 1 ≤ 950; decide
    | train => exact Nat.zero_le _
    | key => exact Nat.zero_le _
def laI (xs : List Bo) (ns : List Int) (e : Int) (n : Nat) (c : Ca) (i : Nat) : List Ly := laysL (xs.take i) ns e n c
theorem laI_succ {xs : List Bo} {ns : List Int} {e : Int} {n : Nat} {c : Ca} {i : Nat} {x : Bo} (h : xs[i]? = some x) : laI xs ns e n c (i + 1) = laI xs ns e n c i ++ boxL ns e n c x := by
  unfold laI laysL
  rw [tk_succ h, List.flatMap_append, List.flatMap_singleton]
theorem laI_len {xs : List Bo} (N : ∀ x ∈ xs, Num x.1) {ns : List Int} {e : Int} {n : Nat} (c : Ca) (few : ns.length ≤ 100) (h : n ≤ 8) : ∀ i, i ≤ xs.length → (laI xs ns e n c i).length ≤ 950 * i
  | 0, _ => by unfold laI laysL; simp
  | i + 1, hi => by
    have hz : xs[i]? = some xs[i] := List.getElem?_eq_getElem (by omega)
    rw [laI_succ hz, List.length_append]
    have := laI_len N (e := e) c few h i (by omega)
    have := boxL_len (N _ (List.getElem_mem (h := by omega))) (ns := ns) (e := e) (n := n) c few h (x := xs[i])
    omega
theorem caS_in (c : Ca) : inV (.str (caS c)) [V.str "quiet", V.str "train", V.str "key"] = true := by cases c <;> decide +kernel
theorem soS_pl (b : Bool) : decide (V.str (soS b) = V.str ("plain" : Str)) = b := by cases b <;> decide +kernel
theorem case_in {K : PySem.W.Frag} {H : Hp} {u : Addr} {Q : VK} (c : Ca) (hu : H u = some (.tup [.str "quiet", .str "train", .str "key"])) (q : Q (.bl false) H) : Ind.rNinS K (.str (caS c)) (.ref u) H Q := by
  refine ⟨.str (caS c), [.str "quiet", .str "train", .str "key"], true, .str _, Ind.isD (t := true) (SqT.of hu) (.cons (.str _) (.cons (.str _) (.cons (.str _) .nil))), by cases c <;> decide +kernel, by simp [PyData.depth], by decide +kernel, ?_⟩
  have e : (!([PyData.str "quiet", .str "train", .str "key"].any fun z => PyData.eqv z (.str (caS c)))) = false := by cases c <;> decide +kernel
  rw [e]
  exact q
theorem case_odd {K : PySem.W.Frag} {H : Hp} {u : Addr} {Q : VK} {cv : V} {d : PyData} (h : OddC K H cv d) (hu : H u = some (.tup [.str "quiet", .str "train", .str "key"])) (q : Q (.bl true) H) : Ind.rNinS K cv (.ref u) H Q := by
  obtain ⟨h1, h2, h3, h4⟩ := h
  refine ⟨d, [.str "quiet", .str "train", .str "key"], true, h1, Ind.isD (t := true) (SqT.of hu) (.cons (.str _) (.cons (.str _) (.cons (.str _) .nil))), h2, h3, by decide +kernel, ?_⟩
  rw [h4]
  exact q
mutual
theorem Dp.ks {K : PySem.W.Frag} {H H' : Hp} (s : Same H H') : ∀ (d : PyData) (v : V), Dp K H v d → Dp K H' v d
  | .none, _, h => by cases h; exact .non
  | .bool _, _, h => by cases h; exact .bl _
  | .int _, _, h => by cases h; exact .int _
  | .str _, _, h => by cases h; exact .str _
  | .tuple ds, _, h => by
    cases h with
    | tup a b => exact .tup (sameT s a) (DpAll.ks s ds _ b)
  | .list ds, _, h => by
    cases h with
    | lst a b => exact .lst (sqL_keep s a) (DpAll.ks s ds _ b)
  | .dict _, _, h => by cases h
theorem DpAll.ks {K : PySem.W.Frag} {H H' : Hp} (s : Same H H') : ∀ (ds : List PyData) (vs : List V), DpAll K H vs ds → DpAll K H' vs ds
  | [], _, h => by cases h; exact .nil
  | d :: ds, _, h => by
    cases h with
    | cons a b => exact .cons (Dp.ks s d _ a) (DpAll.ks s ds _ b)
end
theorem OddC.k {K : PySem.W.Frag} {H H' : Hp} {cv : V} {d : PyData} (h : OddC K H cv d) (s : Same H H') : OddC K H' cv d := ⟨Dp.ks s _ _ h.1, h.2⟩
theorem WlAt.k {C : Addr} {H H' : Hp} {p b : Addr} {bs : List V} {m : Wl} (h : WlAt K C H p b bs m) (s : Same H H') : WlAt K C H' p b bs m := by
  obtain ⟨h1, h2, h3⟩ := h
  exact ⟨s _ _ h1, h2.k s, h3.k s⟩
theorem Bt.hard {B : Addr → Prop} {H H' : Hp} (bt : Bt B H H') (hs : ∀ q, B q → ∃ o, H q = some o ∧ Soft o) {p : Addr} {o : HO} (h : H p = some o) (n : ¬ Soft o) : H' p = some o := bt p o (fun z => by
  obtain ⟨o', e, s⟩ := hs p z
  rw [h] at e
  cases e
  exact n s) h
theorem Bt.sq {B : Addr → Prop} {H H' : Hp} (bt : Bt B H H') (hs : ∀ q, B q → ∃ o, H q = some o ∧ Soft o) {a : Addr} {xs : List V} (h : SqT K H a xs) : SqT K H' a xs := by
  rcases h with (h | ⟨o, h⟩) | h
  · exact .inl (.inl (bt.hard hs h id))
  · exact .inl (.inr ⟨o, bt.hard hs h id⟩)
  · exact .inr h
theorem LayAt.bt {C L : Addr} {B : Addr → Prop} {H H' : Hp} {v : V} {y : Ly} (h : LayAt K C L H v y) (bt : Bt B H H') (hs : ∀ q, B q → ∃ o, H q = some o ∧ Soft o) : LayAt K C L H' v y := by
  obtain ⟨p, dx, fs, q, e, hp, l1, l2, l3, l4, l5, ⟨dx2, fs2, q2, hp2, m1, m2, hq⟩, l7⟩ := h
  exact ⟨p, dx, fs, q, e, bt.hard hs hp id, l1, l2, l3, l4, l5, ⟨dx2, fs2, q2, bt.hard hs hp2 id, m1, m2, bt.sq hs hq⟩, l7⟩
theorem LaysAt.bt {C L : Addr} {B : Addr → Prop} {H H' : Hp} {vs : List V} {ys : List Ly} (h : LaysAt K C L H vs ys) (bt : Bt B H H') (hs : ∀ q, B q → ∃ o, H q = some o ∧ Soft o) : LaysAt K C L H' vs ys := by
  induction h with
  | nil => exact .nil
  | cons a _ ih => exact .cons (a.bt bt hs) ih
theorem ok_lays (T : Txt K mg) : GFn P w K mg base 10 T.a_lays T.d_lays ["pattern", "span", "boxes", "rounds", "case"] (sp_lays K T.C T.L T.CY) := by
  obtain ⟨oc, od, kV, doc, pm, an, cdv, ct, osl, e, lk, hcd⟩ := T.F_lays.ex
  rw [e] at lk
  rw [e]
  refine gfn_of (N := nm_lays) lk hcd sc_lays (fun vs H Q E h => ?_) (fun A outer s H vs Q E pn hr h => ?_)
  · obtain ⟨p, b, bs, m, cv, rfl, _⟩ := h
    rfl
  · obtain ⟨p, b, bs, ⟨xs, ns, e, n⟩, cv, rfl, ⟨hb, hB, hS⟩, ok, h⟩ := h
    obtain ⟨x4, hN, O, few, n1, n8, _, _⟩ := ok
    have x4 : xs.length ≤ 4 := x4
    have n1 : 1 ≤ n := n1
    have n8 : n ≤ 8 := n8
    have few : ns.length ≤ 100 := few
    have O : Off ns := O
    have hN : ∀ x ∈ xs, Num x.1 := hN
    have hB : BosAt H bs xs := hB
    have hS : StrAt K T.C H p ns := hS
    have lb := hB.len
    refine ⟨_, (gss_cons (gs_ps (ps_if (pt_cmpR (Ind.op_ninS (Ind.room65 hr)) (pv 4) (pe_tup (pa_cons (pe_glob (v := V.str "quiet") rfl T.c_QUIET ⟨_, rfl⟩) (pa_cons (pe_glob (v := V.str "train") rfl T.c_TRAIN ⟨_, rfl⟩) (pa_cons (pe_glob (v := V.str "key") rfl T.c_KEY ⟨_, rfl⟩) pa_nil)))) rfl) (pss_one (ps_raiseLowY rfl T.lowY hr takes_gcx (by exact (pa_cons (pv 4) pa_nil)))) pss_nil)) (gss_cons (Gf.gs_for owns_gcx rfl (pi_tup (pv 2)) (pg_tup rfl (pgs_cons (pg_name (i := 5) sc_lays.nd rfl (Or.inl rfl)) (pgs_cons (pg_name (i := 6) sc_lays.nd rfl (Or.inl rfl)) pgs_nil))) (gss_cons (gs_ps (ps_if (pt_cmpR op_eq (pv 6) (ClX.pe_cval (pe_glob (v := V.ref T.W) rfl T.gW rfl)) (nomark _)) (pss_one (ps_set (i := 7) sc_lays.nd rfl (Or.inl rfl) (pe_call (ok_plain_lays T) (hr.mono (by decide)) (by rfl) T.g_plain_lays T.F_plain_lays.kp T.b_plain_lays .nil pass0 (pa_cons (pv 0) (pa_cons (pv 1) (pa_cons (pv 5) (pa_cons (pv 3) (pa_cons (pv 4) pa_nil)))))))) (pss_one (ps_set (i := 7) sc_lays.nd rfl (Or.inl rfl) (pe_call (ok_shy_lays T) (hr.mono (by decide)) (by rfl) T.g_shy_lays T.F_shy_lays.kp T.b_shy_lays .nil pass0 (pa_cons (pv 0) (pa_cons (pv 1) (pa_cons (pv 5) (pa_cons (pv 4) pa_nil))))))))) (gss_cons (gs_yieldFrom (Si2.yf_lst (pv 7)) hr.hd) gss_nil))) gss_nil)), ?_⟩
    refine ⟨_, rfl, by show 3 ≤ sizeLine; decide, fun u hu => ?_⟩
    have s0 := same_new (o := .tup [.str "quiet", .str "train", .str "key"]) hu
    rcases h with ⟨c, rfl, k⟩ | ⟨d, hd, er⟩
    · refine case_in c upd_same ⟨_, rfl, iteF ?_⟩
      have hb1 := s0 _ _ hb
      refine ⟨_, rfl, b, rfl, ⟨_, SqT.of hb1⟩, ?_⟩
      refine Gf.gfor_tup (xs := bs) (fun i ys σ A => Same H A ∧ (∃ v5 v6 v7, σ = [some (.ref p), some (.int e), some (.ref b), some (.int (n : Nat)), some (.str (caS c)), v5, v6, v7]) ∧ LaysAt K T.C T.L A ys (laI xs ns e n c i))
        ⟨s0, ⟨none, none, none, rfl⟩, by unfold laI laysL; simp; exact .nil⟩ (fun i ys σ A _ h => SqT.of (h.1 _ _ hb)) (fun i v ys σ A hv hP => ?_) (fun ys σ A hP => ?_)
      · obtain ⟨sA, ⟨v5, v6, v7, rfl⟩, hY⟩ := hP
        obtain ⟨x, hx, t, rfl, ht⟩ := (hB.k sA).at i v hv
        have hi := (List.getElem?_eq_some_iff.mp hx).1
        have Nx := hN x (List.mem_of_getElem? hx)
        have bl := boxL_len Nx (ns := ns) (e := e) (n := n) c few n8
        have li := laI_len hN (e := e) c few n8 i (by omega)
        have ly := hY.len
        have fin : ∀ (A1 : Hp) (r : Addr) (zs : List V), Same A A1 → A1 r = some (.lst zs) → LaysAt K T.C T.L A1 zs (boxL ns e n c x) → ys.length + zs.length ≤ sizeLine ∧ Same H A1 ∧ LaysAt K T.C T.L A1 (ys ++ zs) (laI xs ns e n c (i + 1)) := fun A1 r zs s1 hr hZ => by
          have lz := hZ.len
          refine ⟨Nat.le_trans (show _ ≤ 5000 by omega) (by decide), sA.trans s1, ?_⟩
          rw [laI_succ hx]
          exact (hY.k s1).app hZ
        refine ⟨t, _, rfl, SqT.of ht, rfl, _, _, rfl, _, _, rfl, rfl, ?_⟩
        refine ⟨_, rfl, T.W, T.mc, _, _, rfl, T.rd, T.vP, rfl, _, rfl, ?_⟩
        rw [soS_pl]
        cases hb2 : x.2 with
        | true =>
          refine iteT ?_
          refine ⟨_, rfl, _, rfl, _, rfl, _, rfl, _, rfl, p, x.1, ns, e, n, c, rfl, Nx, hS.k sA, O, few, n1, n8, fun A1 r zs s1 r0 hr hLs => ?_⟩
          obtain ⟨f1, f2, f3⟩ := fin A1 r zs s1 hr (by unfold boxL; rw [hb2]; exact hLs)
          exact ⟨_, rfl, r, zs, rfl, hr, f1, f2, ⟨_, _, _, rfl⟩, f3⟩
        | false =>
          refine iteF ?_
          refine ⟨_, rfl, _, rfl, _, rfl, _, rfl, p, x.1, ns, e, c, rfl, Nx, hS.k sA, O, fun A1 r zs s1 r0 hr hLs => ?_⟩
          obtain ⟨f1, f2, f3⟩ := fin A1 r zs s1 hr (by unfold boxL; rw [hb2]; exact hLs)
          exact ⟨_, rfl, r, zs, rfl, hr, f1, f2, ⟨_, _, _, rfl⟩, f3⟩
      · obtain ⟨sA, _, hY⟩ := hP
        refine k _ ys sA ?_
        unfold laI at hY
        rw [lb, List.take_length] at hY
        exact hY
    · refine case_odd (hd.k s0) upd_same ⟨_, rfl, iteT ?_⟩
      exact ⟨_, rfl, _, rfl, fun d hd => er _ d (s0.trans (same_new hd)) upd_same⟩
theorem laI_at {xs : List Bo} {ns : List Int} {e : Int} {n : Nat} {c : Ca} {i j : Nat} {x : Bo} {y : Ly} (h : xs[i]? = some x) (hy : (boxL ns e n c x)[j]? = some y) : (laysL xs ns e n c)[(laI xs ns e n c i).length + j]? = some y := by
  have hi := (List.getElem?_eq_some_iff.mp h).1
  have e1 : xs = xs.take (i + 1) ++ xs.drop (i + 1) := (List.take_append_drop _ _).symm
  have e2 : laysL xs ns e n c = laI xs ns e n c (i + 1) ++ laysL (xs.drop (i + 1)) ns e n c := by
    unfold laI laysL
    rw [← List.flatMap_append, List.take_append_drop]
  rw [e2, laI_succ h, List.append_assoc, List.getElem?_append_right (Nat.le_add_right _ _), Nat.add_sub_cancel_left, List.getElem?_append_left (List.getElem?_eq_some_iff.mp hy).1]
  exact hy
theorem ok3_lays (T : Txt K mg) : G3.GFn3 P w K mg base nm_lays "lays" (defScope s_lays) T.d_lays.code 10 T.a_lays T.d_lays ["pattern", "span", "boxes", "rounds", "case"] (sp3_lays K T.C T.L T.CY) := by
  obtain ⟨oc, od, kV, doc, pm, an, cdv, ct, osl, e, lk, hcd⟩ := T.F_lays.ex
  rw [e] at lk
  rw [e]
  refine G3.gfn3_of (N := nm_lays) lk hcd sc_lays (fun A outer s H0 H vs γ Y Q E pn F hr hF mono h => ?_)
  obtain ⟨p, b, bs, ⟨xs, ns, e, n⟩, cv, rfl, ⟨hb, hB, hS⟩, ok, h⟩ := h
  obtain ⟨x4, hN, O, few, n1, n8, _, _⟩ := ok
  have x4 : xs.length ≤ 4 := x4
  have n1 : 1 ≤ n := n1
  have n8 : n ≤ 8 := n8
  have few : ns.length ≤ 100 := few
  have O : Off ns := O
  have hN : ∀ x ∈ xs, Num x.1 := hN
  have hB : BosAt H bs xs := hB
  have hS : StrAt K T.C H p ns := hS
  have lb := hB.len
  refine ⟨_, (G3.gt0_cons (ps_if (pt_cmpR (Ind.op_ninS (Ind.room65 hr)) (pv 4) (pe_tup (pa_cons (pe_glob (v := V.str "quiet") (by rfl) T.c_QUIET ⟨_, rfl⟩) (pa_cons (pe_glob (v := V.str "train") rfl T.c_TRAIN ⟨_, rfl⟩) (pa_cons (pe_glob (v := V.str "key") rfl T.c_KEY ⟨_, rfl⟩) pa_nil)))) rfl) (pss_one (ps_raiseLowY rfl T.lowY hr takes_gcx (by exact (pa_cons (pv 4) pa_nil)))) pss_nil) (G3.gt0_rest (G3.gts_cons (G3.gt_for (n0 := s.heap.objs.size) (fun _ _ _ h => (hF _ _ _ h).1) (fun _ _ _ h => by rw [(hF _ _ _ h).2]; exact PassesOwn.never) rfl (fun _ _ _ _ => (show PI _ _ _ (iTup K (tVar 2)) from pi_tup (pv 2))) (fun _ _ _ _ => (show PG _ _ (gTup K 2 (gCons (gName 5) (gCons (gName 6) gNil))) from (pg_tup rfl (pgs_cons (pg_name (i := 5) sc_lays.nd rfl (Or.inl rfl)) (pgs_cons (pg_name (i := 6) sc_lays.nd rfl (Or.inl rfl)) pgs_nil))))) (G3.gts_cons (G3.gt_ps (fun _ _ _ _ => (ps_if (pt_cmpR op_eq (pv 6) (show PE _ _ (ClX.tCVal K (tC (V.ref T.W)) "PLAIN") from ClX.pe_cval (pe_glob (v := V.ref T.W) (by rfl) T.gW rfl)) (nomark _)) (pss_one (ps_set (i := 7) sc_lays.nd rfl (Or.inl rfl) (pe_call (ok_plain_lays T) (hr.mono (by decide)) (by rfl) T.g_plain_lays T.F_plain_lays.kp T.b_plain_lays .nil pass0 (pa_cons (pv 0) (pa_cons (pv 1) (pa_cons (pv 5) (pa_cons (pv 3) (pa_cons (pv 4) pa_nil)))))))) (pss_one (ps_set (i := 7) sc_lays.nd rfl (Or.inl rfl) (pe_call (ok_shy_lays T) (hr.mono (by decide)) (by rfl) T.g_shy_lays T.F_shy_lays.kp T.b_shy_lays .nil pass0 (pa_cons (pv 0) (pa_cons (pv 1) (pa_cons (pv 5) (pa_cons (pv 4) pa_nil)))))))))) (G3.gts_cons (G3.gt_yfL mono (n0 := s.heap.objs.size) (fun _ _ _ h => (hF _ _ _ h).1) (fun _ _ _ _ => (pv 7)) hr.hd) G3.gts_nil))) G3.gts_nil))), ?_⟩
  refine ⟨_, rfl, by show 3 ≤ sizeLine; decide, fun u hu => ?_⟩
  have s0 := same_new (o := .tup [.str "quiet", .str "train", .str "key"]) hu
  rcases h with ⟨c, rfl, J, B, j0, jS, jY, jQ⟩ | ⟨d, hd, er⟩
  · refine case_in c upd_same ⟨_, rfl, iteF ?_⟩
    have hb1 := s0 _ _ hb
    refine ⟨_, rfl, b, rfl, ⟨_, SqT.of hb1⟩, ?_⟩
    have jW : ∀ i γ A, J i γ A → A b = some (.tup bs) ∧ BosAt A bs xs ∧ StrAt K T.C A p ns := fun i γ A h => (jS i γ A h).2
    have jB := fun i γ A h => (jS i γ A h).1
    have hJY : ∀ i γ H H' v y, J i γ H → Same H H' → (laysL xs ns e n c)[i]? = some y → LayAt K T.C T.L H' v y → Y i v γ H' fun γ2 H2 => J (i + 1) γ2 H2 ∧ Bt B H' H2 := jY
    refine G3.for2_tup (xs := bs) (fun i k σ A => k.1 = (laI xs ns e n c i).length ∧ (∃ v5 v6 v7, σ = [some (.ref p), some (.int e), some (.ref b), some (.int (n : Nat)), some (.str (caS c)), v5, v6, v7]) ∧ ∃ A0, J k.1 k.2 A0 ∧ Same A0 A)
      ⟨by unfold laI laysL; simp, ⟨none, none, none, rfl⟩, H, j0, s0⟩ (fun i k σ A _ h => ?_) (fun i v k σ A hv hP => ?_) (fun k σ A hP => ?_)
    · obtain ⟨_, _, A0, jA, sA⟩ := h
      exact SqT.of (sA _ _ (jW _ _ _ jA).1)
    · obtain ⟨hk, ⟨v5, v6, v7, rfl⟩, A0, jA, sA⟩ := hP
      obtain ⟨w1, w2, w3⟩ := jW _ _ _ jA
      have bA := jB _ _ _ jA
      obtain ⟨x, hx, t, rfl, ht⟩ := (w2.k sA).at i v hv
      have hi := (List.getElem?_eq_some_iff.mp hx).1
      have Nx := hN x (List.mem_of_getElem? hx)
      have bl := boxL_len Nx (ns := ns) (e := e) (n := n) c few n8
      have li := laI_len hN (e := e) c few n8 i (by omega)
      have hS := w3.k sA
      -- the list that is handed out
      have fin : ∀ (A1 : Hp) (r : Addr) (zs : List V), Same A A1 → A r = none → A1 r = some (.lst zs) → LaysAt K T.C T.L A1 zs (boxL ns e n c x) → k.1 + zs.length ≤ sizeLine ∧ ∃ W : Nat → L2.St → Hp → Prop, W 0 k.2 A1 ∧ (∀ j γ H, W j γ H → H r = some (.lst zs)) ∧
          (∀ j x γ H, zs[j]? = some x → W j γ H → Y (k.1 + j) x γ H fun γ2 H2 => W (j + 1) γ2 H2) ∧ ∀ γ H, W zs.length γ H → (k.1 + zs.length = (laI xs ns e n c (i + 1)).length ∧ ∃ A0, J (k.1 + zs.length) γ A0 ∧ Same A0 H) := fun A1 r zs s1 r0 hr hZ => by
        have lz := hZ.len
        refine ⟨Nat.le_trans (show _ ≤ 5000 by omega) (by decide), fun j γ H => (∃ A0, J (k.1 + j) γ A0 ∧ Same A0 H) ∧ (∀ q, B q → ∃ o, H q = some o ∧ Soft o) ∧ ¬ B r ∧ H r = some (.lst zs) ∧ LaysAt K T.C T.L H zs (boxL ns e n c x), ?_, fun j γ H h => h.2.2.2.1, fun j v γ H hv h => ?_, fun γ H h => ?_⟩
        · refine ⟨⟨A0, jA, sA.trans s1⟩, fun q m => ?_, fun m => ?_, hr, hZ⟩
          · obtain ⟨o, e, so⟩ := bA q m
            exact ⟨o, (sA.trans s1) _ _ e, so⟩
          · obtain ⟨o, e, so⟩ := bA r m
            rw [sA _ _ e] at r0; cases r0
        · obtain ⟨⟨A2, j2, s2⟩, b2, nb, hr2, hZ2⟩ := h
          obtain ⟨y, hy, hL⟩ := hZ2.at j v hv
          refine mono _ _ _ _ _ _ (fun γ2 H2 q => ?_) (hJY _ γ A2 H v y j2 s2 (by rw [hk]; exact laI_at hx hy) hL)
          obtain ⟨q1, q2⟩ := q
          exact ⟨⟨H2, q1, Same.refl _⟩, jB _ _ _ q1, nb, q2 _ _ nb hr2, hZ2.bt q2 b2⟩
        · obtain ⟨h1, _⟩ := h
          refine ⟨?_, h1⟩
          rw [laI_succ hx, List.length_append, hk, lz]
      refine ⟨t, _, rfl, SqT.of ht, rfl, _, _, rfl, _, _, rfl, rfl, ?_⟩
      refine ⟨_, rfl, T.W, T.mc, _, _, rfl, T.rd, T.vP, rfl, _, rfl, ?_⟩
      rw [soS_pl]
      cases hb2 : x.2 with
      | true =>
        refine iteT ?_
        refine ⟨_, rfl, _, rfl, _, rfl, _, rfl, _, rfl, p, x.1, ns, e, n, c, rfl, Nx, hS, O, few, n1, n8, fun A1 r zs s1 r0 hr hLs => ?_⟩
        obtain ⟨f1, W, f2, f3, f4, f5⟩ := fin A1 r zs s1 r0 hr (by unfold boxL; rw [hb2]; exact hLs)
        exact ⟨_, rfl, r, zs, rfl, f1, W, f2, f3, f4, fun γ H h => ⟨(f5 γ H h).1, ⟨_, _, _, rfl⟩, (f5 γ H h).2⟩⟩
      | false =>
        refine iteF ?_
        refine ⟨_, rfl, _, rfl, _, rfl, _, rfl, p, x.1, ns, e, c, rfl, Nx, hS, O, fun A1 r zs s1 r0 hr hLs => ?_⟩
        obtain ⟨f1, W, f2, f3, f4, f5⟩ := fin A1 r zs s1 r0 hr (by unfold boxL; rw [hb2]; exact hLs)
        exact ⟨_, rfl, r, zs, rfl, f1, W, f2, f3, f4, fun γ H h => ⟨(f5 γ H h).1, ⟨_, _, _, rfl⟩, (f5 γ H h).2⟩⟩
    · obtain ⟨hk, _, A0, jA, sA⟩ := hP
      have e1 : (laI xs ns e n c bs.length) = laysL xs ns e n c := by
        unfold laI
        rw [lb, List.take_length]
      rw [e1] at hk
      rw [hk] at jA
      exact jQ _ _ _ jA sA
  · refine case_odd (hd.k s0) upd_same ⟨_, rfl, iteT ?_⟩
    exact ⟨_, rfl, _, rfl, fun d hd => er _ d (s0.trans (same_new hd)) upd_same⟩
end
end K15

namespace K15
open PySem L2 Wm TL Dv
section
variable {P : Program} {w : World} {K : PySem.W.Frag} {mg : Str → Option Value} {base : Heap}
theorem dp_int2 {K : PySem.W.Frag} {H : Hp} : ∀ ns : List Int, DpAll K H (ns.map V.int) (ns.map PyData.int)
  | [] => .nil
  | n :: ns => .cons (.int n) (dp_int2 ns)
theorem eqvAll_ints : ∀ a b : List Int, PyData.eqvAll (a.map PyData.int) (b.map PyData.int) = decide (a = b)
  | [], [] => by simp [PyData.eqvAll]
  | [], y :: b => by simp [PyData.eqvAll]
  | x :: a, [] => by simp [PyData.eqvAll]
  | x :: a, y :: b => by
    rw [List.map_cons, List.map_cons, PyData.eqvAll, eqvAll_ints a b]
    by_cases h : x = y
    · subst h
      simp [PyData.eqv]
    · simp [PyData.eqv, h]
theorem eqv_off2 (a b : List Int) : PyData.eqv (offD a) (offD b) = decide (a = b) := by
  unfold offD
  rw [PyData.eqv, eqvAll_ints]
theorem fine_off2 (ns : List Int) : Fine 1 (offD ns) := fine_tup fun d m => by
  obtain ⟨i, _, rfl⟩ := List.mem_map.mp m
  exact fine_int i
theorem ok_seq (T : Txt K mg) : FnOk P w K mg base CX0 1 T.a_seq T.d_seq ["self", "other"] (sp_seq K T.C) := by
  refine T.F_seq.ok sc_seq (fun vs H Q E h => ?_) (fun cdv A outer s H vs Q E hr h => ?_)
  · obtain ⟨p, q, ns, ms, rfl, _⟩ := h
    rfl
  · obtain ⟨p, p2, ns, ms, rfl, ⟨dx, fs, q, hp, l1, l2, hq⟩, ⟨dx2, fs2, q2, hp2, m1, m2, hq2⟩, k⟩ := h
    refine ⟨_, (pss_one (ps_ret (pe_and (pe_callB call_isi (by rfl) T.z_isinstance (by decide +kernel) (pa_cons (pv 1) (pa_cons (pe_glob (v := V.ref T.C) rfl T.gC rfl) pa_nil))) (pe_one (pe_cmpR (op_eqD hr.units) (pe_fld (pv 0) rfl) (pe_fld (pv 1) rfl) (nomark _)))))), ?_⟩
    refine ⟨_, rfl, _, _, _, _, true, rfl, .own T.C, .base (.ins hp2 T.clC T.isi.ca T.isi.cn T.isi.ct T.isi.cm), T.kS, true, rfl, iteT ?_⟩
    refine ⟨_, rfl, p, T.C, dx, fs, _, rfl, hp, T.clC, T.nO, l1, _, rfl, p2, T.C, dx2, fs2, _, rfl, hp2, T.clC, T.nO, m1, ?_⟩
    refine ⟨offD ns, offD ms, .tup hq (dp_int2 ns), .tup hq2 (dp_int2 ms), (fine_off2 ns).shaped (by decide), (fine_off2 ms).shaped (by decide), ?_⟩
    rw [eqv_off2]
    exact k
theorem ly_ne {y z : Ly} : y = z ↔ (numS y.ds = numS z.ds ∧ y.kind = z.kind ∧ y.a = z.a ∧ y.n = z.n ∧ y.ns = z.ns ∧ y.e = z.e) := by
  constructor
  · rintro rfl
    exact ⟨rfl, rfl, rfl, rfl, rfl, rfl⟩
  · rintro ⟨h1, h2, h3, h4, h5, h6⟩
    cases y; cases z
    have h1 := numS_inj h1
    simp only at h1 h2 h3 h4 h5 h6
    subst h1 h2 h3 h4 h5 h6
    rfl
theorem vstr_inj {a b : Str} (h : V.str a = V.str b) : a = b := V.str.inj h
theorem eq_s {C : Addr} (cl : Cls K C) (isi : SlX.SIsi K C) (sfC : PySem.W.notFirst K C (.ref C) = true) {H : Hp} {p q : Addr} {ns ms : List Int} {Q : VK} (hp : StrAt K C H p ns) (hq : StrAt K C H q ms) (k : Q (.bl (decide (ns = ms))) H) : Ow.rCmp K C (fun vs H Q E => sp_seq K C (vs ++ []) H Q E) E0 (.ref p) (.ref q) H Q := by
  obtain ⟨y1, f1, _, i1, _⟩ := id hp
  obtain ⟨y2, f2, _, i2, _⟩ := id hq
  exact ⟨p, y1, f1, _, rfl, i1, .base (.ins i2 cl isi.ca isi.cn isi.ct isi.cm), sfC, p, q, ns, ms, rfl, hp, hq, k⟩
theorem ne_go {x y : V} {R S : Prop} (h1 : x ≠ y → R) (h2 : x = y → S) : if (!decide (x = y)) = true then R else S := by
  by_cases e : x = y
  · rw [if_neg (by simp [e])]; exact h2 e
  · rw [if_pos (by simp [e])]; exact h1 e
theorem andV {A : Prop} [Decidable A] {Q : VK} {H : Hp} {R : Prop} (h1 : A → R) (h2 : ¬ A → Q (.bl false) H) : if decide A = true then R else Q (.bl false) H := by
  by_cases a : A
  · rw [if_pos (decide_eq_true a)]; exact h1 a
  · rw [if_neg (by simp [a])]; exact h2 a
theorem ok_leq (T : Txt K mg) : FnOk P w K mg base CX0 3 T.a_leq T.d_leq ["self", "other"] (sp_leq K T.C T.L) := by
  refine T.F_leq.ok sc_leq (fun vs H Q E h => ?_) (fun cdv A outer s H vs Q E hr h => ?_)
  · obtain ⟨p, q, y, rfl, _⟩ := h
    rfl
  · obtain ⟨p, p2, y, rfl, ⟨p', dx, fs, q, e, hp, l1, l2, l3, l4, l5, l6, l7, l8⟩, h⟩ := h
    cases e
    refine ⟨_, (pss_one (ps_ret (pe_and (pe_callB call_isi (by rfl) T.z_isinstance (by decide +kernel) (pa_cons (pv 1) (pa_cons (pe_glob (v := V.ref T.L) rfl T.gL rfl) pa_nil))) (pe_and (pe_cmpR op_eq (pe_fld (pv 0) rfl) (pe_fld (pv 1) rfl) (nomark _)) (pe_and (pe_cmpR op_eq (pe_fld (pv 0) rfl) (pe_fld (pv 1) rfl) (nomark _)) (pe_and (pe_cmpR op_eq (pe_fld (pv 0) rfl) (pe_fld (pv 1) rfl) (nomark _)) (pe_and (pe_cmpR op_eq (pe_fld (pv 0) rfl) (pe_fld (pv 1) rfl) (nomark _)) (pe_and (pe_cmpR (Ow.op_cmp (op := .Eq) (fun _ _ => rfl) T.aSeq T.iSeq ((ok_seq T).raw T.b_seq .nil) (hr.mono (by decide)) pass0) (pe_fld (pv 0) rfl) (pe_fld (pv 1) rfl) (nomark _)) (pe_one (pe_cmpR op_eq (pe_fld (pv 0) rfl) (pe_fld (pv 1) rfl) (nomark _))))))))))), ?_⟩
    rcases h with ⟨z, ⟨p2', dx2, fs2, q2, e, hp2, m1, m2, m3, m4, m5, m6, m7, m8⟩, k⟩ | ⟨xs, hx, k⟩
    · cases e
      refine ⟨_, rfl, _, _, _, _, true, rfl, .own T.L, .base (.ins hp2 T.clL T.isiL.ca T.isiL.cn T.isiL.ct T.isiL.cm), T.kSL, true, rfl, iteT ?_⟩
      refine ⟨_, rfl, p, T.L, dx, fs, _, rfl, hp, T.clL, T.nN, l1, _, rfl, p2, T.L, dx2, fs2, _, rfl, hp2, T.clL, T.nN, m1, ?_⟩
      have kF : y ≠ z → Q (.bl false) H := fun n => by rw [decide_eq_false n] at k; exact k
      refine ⟨rfl, _, rfl, andV (fun h1 => ?_) (fun n => kF fun e => n (by rw [e]))⟩
      refine ⟨_, rfl, p, T.L, dx, fs, _, rfl, hp, T.clL, T.nK, l2, _, rfl, p2, T.L, dx2, fs2, _, rfl, hp2, T.clL, T.nK, m2, rfl, _, rfl, andV (fun h2 => ?_) (fun n => kF fun e => n (by rw [e]))⟩
      refine ⟨_, rfl, p, T.L, dx, fs, _, rfl, hp, T.clL, T.nA, l3, _, rfl, p2, T.L, dx2, fs2, _, rfl, hp2, T.clL, T.nA, m3, rfl, _, rfl, andV (fun h3 => ?_) (fun n => kF fun e => n (by rw [e]))⟩
      refine ⟨_, rfl, p, T.L, dx, fs, _, rfl, hp, T.clL, T.nR, l4, _, rfl, p2, T.L, dx2, fs2, _, rfl, hp2, T.clL, T.nR, m4, rfl, _, rfl, andV (fun h4 => ?_) (fun n => kF fun e => n (by rw [e]))⟩
      refine ⟨_, rfl, p, T.L, dx, fs, _, rfl, hp, T.clL, T.nSt, l5, _, rfl, p2, T.L, dx2, fs2, _, rfl, hp2, T.clL, T.nSt, m5, eq_s T.clC T.isi T.sfC l6 m6 ⟨_, rfl, andV (fun h5 => ?_) (fun n => kF fun e => n (by rw [e]))⟩⟩
      refine ⟨_, rfl, p, T.L, dx, fs, _, rfl, hp, T.clL, T.nE, l7, _, rfl, p2, T.L, dx2, fs2, _, rfl, hp2, T.clL, T.nE, m7, rfl, ?_⟩
      have e : decide (y = z) = decide (V.int y.e = V.int z.e) := decide_eq_decide.mpr ⟨fun e => by rw [e], fun h6 => ly_ne.mpr ⟨V.str.inj h1, V.str.inj h2, V.int.inj h3, Int.ofNat.inj (V.int.inj h4), h5, V.int.inj h6⟩⟩
      rw [← e]
      exact k
    · refine ⟨_, rfl, _, _, _, _, false, rfl, .own T.L, .base (.tup hx), T.kTL, false, rfl, iteF ?_⟩
      exact k
theorem ok_clash (T : Txt K mg) : FnOk P w K mg base CX0 1 T.a_clash T.d_clash ["one", "other"] (sp_clash K T.C T.L) := by
  refine T.F_clash.ok sc_clash (fun vs H Q E h => ?_) (fun cdv A outer s H vs Q E hr h => ?_)
  · obtain ⟨p, q, y, z, rfl, _⟩ := h
    rfl
  · obtain ⟨p, p2, y, z, rfl, ⟨p', dx, fs, q, e, hp, l1, l2, l3, l4, l5, l6, l7, l8⟩, ⟨p2', dx2, fs2, q2, e2, hp2, m1, m2, m3, m4, m5, m6, m7, m8⟩, k⟩ := h
    cases e; cases e2
    refine ⟨_, (pss_one (ps_ret (pe_and (pe_cmpR op_eq (pe_fld (pv 0) rfl) (pe_fld (pv 1) rfl) (nomark _)) (pe_and (pe_cmpR op_lt (pe_fld (pv 0) rfl) (pe_fld (pv 1) rfl) (nomark _)) (pe_one (pe_cmpR op_lt (pe_fld (pv 1) rfl) (pe_fld (pv 0) rfl) (nomark _))))))), ?_⟩
    refine ⟨_, rfl, p, T.L, dx, fs, _, rfl, hp, T.clL, T.nN, l1, _, rfl, p2, T.L, dx2, fs2, _, rfl, hp2, T.clL, T.nN, m1, ?_⟩
    have kF : ¬ (y.ds = z.ds ∧ y.a < z.e ∧ z.a < y.e) → Q (.bl false) H := fun n => by rw [decide_eq_false n] at k; exact k
    refine ⟨rfl, _, rfl, andV (fun h1 => ?_) (fun n => kF fun e => n (by rw [e.1]))⟩
    refine ⟨_, rfl, p, T.L, dx, fs, _, rfl, hp, T.clL, T.nA, l3, _, rfl, p2, T.L, dx2, fs2, _, rfl, hp2, T.clL, T.nE, m7, _, _, rfl, rfl, _, rfl, andV (fun h2 => ?_) (fun n => kF fun e => n e.2.1)⟩
    refine ⟨_, rfl, p2, T.L, dx2, fs2, _, rfl, hp2, T.clL, T.nA, m3, _, rfl, p, T.L, dx, fs, _, rfl, hp, T.clL, T.nE, l7, _, _, rfl, rfl, ?_⟩
    have e : decide (y.ds = z.ds ∧ y.a < z.e ∧ z.a < y.e) = decide (z.a < y.e) := decide_eq_decide.mpr ⟨fun e => e.2.2, fun h => ⟨numS_inj (V.str.inj h1), h2, h⟩⟩
    show Q (.bl (decide (z.a < y.e))) H
    rw [← e]
    exact k
theorem ok_overlap (T : Txt K mg) : FnOk P w K mg base CX0 1 T.a_overlap T.d_overlap ["_law_one", "_law_other"] (sp_overlap K T.C T.L) := by
  refine T.F_overlap.ok sc_overlap (fun vs H Q E h => ?_) (fun cdv A outer s H vs Q E hr h => ?_)
  · obtain ⟨p, q, y, z, rfl, _⟩ := h
    rfl
  · obtain ⟨p, p2, y, z, rfl, ⟨p', dx, fs, q, e, hp, l1, l2, l3, l4, l5, l6, l7, l8⟩, ⟨p2', dx2, fs2, q2, e2, hp2, m1, m2, m3, m4, m5, m6, m7, m8⟩, k⟩ := h
    cases e; cases e2
    refine ⟨_, (pss_cons (ps_if (pt_cmpR op_ne (pe_fld (pv 0) rfl) (pe_fld (pv 1) rfl) (nomark _))
        (pss_one (ps_ret pe_bl))
        pss_nil)
      (pss_one (ps_ret (pe_cmpR op_lt (pe_callB (call_max2 rfl) (by rfl) T.z_max (by decide +kernel) (pa_cons (pe_fld (pv 0) rfl) (pa_cons (pe_fld (pv 1) rfl) pa_nil))) (pe_callB (call_min2 rfl) (by rfl) T.z_min (by decide +kernel) (pa_cons (pe_fld (pv 0) rfl) (pa_cons (pe_fld (pv 1) rfl) pa_nil))) (nomark _))))), ?_⟩
    refine ⟨_, rfl, p, T.L, dx, fs, _, rfl, hp, T.clL, T.nN, l1, _, rfl, p2, T.L, dx2, fs2, _, rfl, hp2, T.clL, T.nN, m1, ?_⟩
    have kF : ¬ (y.ds = z.ds ∧ (y.a < y.e ∧ y.a < z.e) ∧ z.a < y.e ∧ z.a < z.e) → Q (.bl false) H := fun n => by rw [decide_eq_false n] at k; exact k
    refine ⟨rfl, _, rfl, ?_⟩
    by_cases h1 : V.str (numS y.ds) = V.str (numS z.ds)
    · refine ne_go (fun n => absurd h1 n) fun _ => ?_
      refine ⟨_, rfl, p, T.L, dx, fs, _, rfl, hp, T.clL, T.nA, l3, _, rfl, p2, T.L, dx2, fs2, _, rfl, hp2, T.clL, T.nA, m3, _, _, rfl, ?_⟩
      refine ⟨_, rfl, p, T.L, dx, fs, _, rfl, hp, T.clL, T.nE, l7, _, rfl, p2, T.L, dx2, fs2, _, rfl, hp2, T.clL, T.nE, m7, _, _, rfl, _, _, rfl, rfl, ?_⟩
      have e : decide (y.ds = z.ds ∧ (y.a < y.e ∧ y.a < z.e) ∧ z.a < y.e ∧ z.a < z.e) = decide ((if z.a > y.a then z.a else y.a) < (if z.e < y.e then z.e else y.e)) := decide_eq_decide.mpr (by
        have := numS_inj (V.str.inj h1)
        constructor
        · rintro ⟨_, h⟩
          split <;> split <;> omega
        · intro h
          refine ⟨this, ?_⟩
          revert h
          split <;> split <;> intro h <;> omega)
      show Q (.bl (decide ((if z.a > y.a then z.a else y.a) < (if z.e < y.e then z.e else y.e)))) H
      rw [← e]
      exact k
    · exact ne_go (fun _ => kF fun e => h1 (by rw [e.1])) fun e => absurd e h1
end
end K15

namespace K15
open PySem L2 Wm TL Dv
section
variable {P : Program} {w : World} {K : PySem.W.Frag} {mg : Str → Option Value} {base : Heap}
theorem sc_dp {H : Hp} {x : V} (h : Sc x) : Dp K H x (scD x) := by
  cases h with
  | non => exact .non
  | bl b => exact .bl b
  | int i _ => exact .int i
  | str _ => exact .str _
theorem scs_dp {H : Hp} : ∀ {xs : List V}, (∀ x ∈ xs, Sc x) → DpAll K H xs (xs.map scD)
  | [], _ => .nil
  | x :: xs, h => .cons (sc_dp (h x List.mem_cons_self)) (scs_dp fun y m => h y (List.mem_cons_of_mem _ m))
theorem sc_fine {n : Nat} {x : V} (h : Sc x) : Fine n (scD x) := by
  cases h with
  | non => exact ⟨by simp [scD, PyData.canLay0], by simp [scD, PyData.depth]⟩
  | bl b => exact ⟨by simp [scD, PyData.canLay0], by simp [scD, PyData.depth]⟩
  | int i _ => exact fine_int i
  | str t => exact fine_str (by
      rw [← Array.all_toList, List.all_eq_true]
      intro c m
      have := t.asc c m
      exact decide_eq_true (by omega))
theorem scs_fine {xs : List V} (h : ∀ x ∈ xs, Sc x) : Fine 1 (.tuple (xs.map scD)) := fine_tup fun d m => by
  obtain ⟨x, mx, rfl⟩ := List.mem_map.mp m
  exact sc_fine (h x mx)
def isB : V → Bool
  | .bl _ => true
  | _ => false
theorem eqv_i (i j : Int) : PyData.eqv (.int i) (.int j) = decide (V.int i = V.int j) := by
  by_cases e : i = j
  · subst e; simp [PyData.eqv]
  · simp [PyData.eqv, e]
theorem eqv_t (i j : Str) : PyData.eqv (.str i) (.str j) = decide (V.str i = V.str j) := by
  by_cases e : i = j
  · subst e; simp [PyData.eqv]
  · simp [PyData.eqv, e]
theorem eqv_sc {x z : V} (hx : Sc x) (hz : Sc z) (bx : isB x = false) (bz : isB z = false) : PyData.eqv (scD x) (scD z) = decide (x = z) := by
  cases hx with
  | bl b => cases bx
  | non =>
    cases hz with
    | bl b => cases bz
    | non => simp [scD, PyData.eqv]
    | int j _ => simp [scD, PyData.eqv]
    | str _ => simp [scD, PyData.eqv]
  | int i _ =>
    cases hz with
    | bl b => cases bz
    | non => simp [scD, PyData.eqv]
    | int j _ => exact eqv_i _ _
    | str _ => simp [scD, PyData.eqv]
  | str _ =>
    cases hz with
    | bl b => cases bz
    | non => simp [scD, PyData.eqv]
    | int j _ => simp [scD, PyData.eqv]
    | str _ => exact eqv_t _ _
theorem eqvAll_sc : ∀ {xs zs : List V}, (∀ x ∈ xs, Sc x) → (∀ z ∈ zs, Sc z) → (∀ x ∈ xs, isB x = false) → (∀ z ∈ zs, isB z = false) → PyData.eqvAll (xs.map scD) (zs.map scD) = decide (xs = zs)
  | [], [], _, _, _, _ => by simp [PyData.eqvAll]
  | [], z :: zs, _, _, _, _ => by simp [PyData.eqvAll]
  | x :: xs, [], _, _, _, _ => by simp [PyData.eqvAll]
  | x :: xs, z :: zs, h1, h2, h3, h4 => by
    rw [List.map_cons, List.map_cons, PyData.eqvAll, eqv_sc (h1 x List.mem_cons_self) (h2 z List.mem_cons_self) (h3 x List.mem_cons_self) (h4 z List.mem_cons_self),
      eqvAll_sc (fun y m => h1 y (List.mem_cons_of_mem _ m)) (fun y m => h2 y (List.mem_cons_of_mem _ m)) (fun y m => h3 y (List.mem_cons_of_mem _ m)) (fun y m => h4 y (List.mem_cons_of_mem _ m))]
    by_cases e : x = z
    · subst e; simp
    · simp [e]
theorem tup_ty {H : Hp} {p : Addr} {xs : List V} (h : SqT K H p xs) : TyX K H (.ref p) (.type "tuple") := by
  rcases h with (h | ⟨o, h⟩) | ⟨o, its, n, e, c, _⟩
  · exact .base (.tup h)
  · exact .fTuple h
  · exact .kTuple e c
theorem FxAt.k {H H' : Hp} {v : V} {f : Fx} (h : FxAt K H v f) (s : Same H H') : FxAt K H' v f := by
  cases f with
  | tup xs => obtain ⟨p, e, q⟩ := h; exact ⟨p, e, sameT s q⟩
  | lst xs => obtain ⟨p, e, q⟩ := h; exact ⟨p, e, s _ _ q⟩
  | sc x => exact h
theorem tx_num {ds : List Nat} (N : Num ds) : Tx (numS ds) := ⟨by rw [numS_len]; have := N.len; omega, fun c m => by
    have m : c ∈ codes ds := m
    obtain ⟨d, md, rfl⟩ := List.mem_map.mp m
    have := (N.dig d md).2
    omega⟩
theorem fvs_sc {y : Ly} (o : LyOk y) : ∀ x ∈ fvs y, Sc x := by
  have h1 : Sc (.str (numS y.ds)) := .str (tx_num o.num)
  have h2 := o.kind
  have h3 := o.a
  have h4 := o.n
  intro x m
  unfold fvs at m
  rcases List.mem_cons.mp m with rfl | m
  · exact h1
  rcases List.mem_cons.mp m with rfl | m
  · exact .str h2
  rcases List.mem_cons.mp m with rfl | m
  · exact .int _ (Nat.lt_of_lt_of_le h3 (Nat.pow_le_pow_right (by decide) (by decide)))
  rcases List.mem_cons.mp m with rfl | m
  · exact .int _ (Nat.lt_of_le_of_lt (show ((y.n : Nat) : Int).natAbs ≤ 8 by omega) (by decide))
  · cases m
theorem fvs_nb {y : Ly} : ∀ x ∈ fvs y, isB x = false := by
  intro x m
  unfold fvs at m
  rcases List.mem_cons.mp m with rfl | m
  · rfl
  rcases List.mem_cons.mp m with rfl | m
  · rfl
  rcases List.mem_cons.mp m with rfl | m
  · rfl
  rcases List.mem_cons.mp m with rfl | m
  · rfl
  · cases m
theorem ok_are_facts_of (T : Txt K mg) : FnOk P w K mg base CX0 2 T.a_are_facts_of T.d_are_facts_of ["thing", "lay"] (sp_are_facts_of K T.C T.L) := by
  refine T.F_are_facts_of.ok sc_are_facts_of (fun vs H Q E h => ?_) (fun cdv A outer s H vs Q E hr h => ?_)
  · obtain ⟨v, p, f, y, rfl, _⟩ := h
    rfl
  · obtain ⟨v, p, f, y, rfl, hf, fo, hL, hok, k⟩ := h
    obtain ⟨p', dx, fs, q, e, hp, l1, l2, l3, l4, l5, l6, l7, l8⟩ := id hL
    cases e
    refine ⟨_, (pss_cons (ps_if (PW.pt (pw_or (pt_not (pt_val (pe_callB call_isi (by rfl) T.z_isinstance (by decide +kernel) (pa_cons (pv 0) (pa_cons (pe_bltn (v := V.ty "tuple") (by rfl) T.z_tuple (by decide +kernel) rfl) pa_nil))))) (pw_or1 (pt_val (pe_callB (cr_any rfl) (by rfl) T.z_any (by decide +kernel) (pa_cons (pe_lc (own := [("part", 2)]) (g := gName 2) (tt := tYes) rfl sc_are_facts_of.nd (pi_tup (pv 0)) (blkOk_by (own := [("part", 2)]) (N := nm_are_facts_of) (sc := (defScope s_are_facts_of)) (by decide +kernel)) (fun _ _ _ _ _ => pg_name (i := 2) sc_are_facts_of.nd rfl (Or.inl rfl)) (fun _ _ _ _ _ => pts_nil) (fun _ _ _ _ _ => (pe_callB (show CallR _ _ (rIsi K) from call_isi) (by rfl) T.z_isinstance (by decide +kernel) (pa_cons (pv 2) (pa_cons (pe_bltn (v := V.ty "bool") (by rfl) T.z_bool (by decide +kernel) rfl) pa_nil))))) pa_nil))))))
        (pss_one (ps_ret pe_bl))
        pss_nil)
      (pss_one (ps_ret (pe_cmpR (op_eqD hr.units) (pv 0) (pe_meth0 (pv 1) T.clL T.m_facts (ok_facts T) (hr.mono (by decide)) T.b_facts .nil pass0) (nomark _))))), ?_⟩
    cases f with
    | lst xs =>
      obtain ⟨r, rfl, hr⟩ := hf
      refine ⟨_, rfl, _, _, _, _, false, rfl, .ty "tuple", .base (.lst hr), kit_ty (by decide +kernel), false, rfl, iteT ?_⟩
      exact iteT (k _ (Same.refl _))
    | sc x =>
      obtain rfl : v = x := hf
      have sx : Sc v := fo.sc v List.mem_cons_self
      have k := k _ (Same.refl _)
      cases sx with
      | non => exact ⟨_, rfl, _, _, _, _, false, rfl, .ty "tuple", .base .non, kit_ty (by decide +kernel), false, rfl, iteT (iteT k)⟩
      | bl b => exact ⟨_, rfl, _, _, _, _, false, rfl, .ty "tuple", .base (.bl _), kit_ty (by decide +kernel), false, rfl, iteT (iteT k)⟩
      | int i _ => exact ⟨_, rfl, _, _, _, _, false, rfl, .ty "tuple", .base (.int _), kit_ty (by decide +kernel), false, rfl, iteT (iteT k)⟩
      | str _ => exact ⟨_, rfl, _, _, _, _, false, rfl, .ty "tuple", .base (.str _), kit_ty (by decide +kernel), false, rfl, iteT (iteT k)⟩
    | tup xs =>
      obtain ⟨r, rfl, hr⟩ := hf
      have few : xs.length ≤ 6 := fo.few
      have scs : ∀ x ∈ xs, Sc x := fo.sc
      refine ⟨_, rfl, _, _, _, _, true, rfl, .ty "tuple", tup_ty hr, kit_ty (by decide +kernel), true, rfl, iteF ?_⟩
      refine ⟨_, rfl, r, rfl, ⟨_, hr⟩, fun D hD => ?_⟩
      refine Lm.lc_map (K := K) walk_tup (fun i y _ => (xs.map fun x => V.bl (isB x))[i]? = some y) (fun _ _ _ _ h _ => h) hD (by omega) (fun H' s => sameT s hr) (fun i x H' hi hx sm Q2 Z q => ?_) (fun H7 zs s7 hy ly hR => ?_)
      · have go : (xs.map fun x => V.bl (isB x))[i]? = some (V.bl (isB x)) := by rw [List.getElem?_map, hx]; rfl
        refine ⟨rfl, yesT ?_⟩
        have sx := scs x (List.mem_of_getElem? hx)
        cases sx with
        | non => exact ⟨_, rfl, _, _, _, _, false, rfl, .ty "bool", .base .non, kit_ty (by decide +kernel), q _ _ (Same.refl _) go⟩
        | bl b => exact ⟨_, rfl, _, _, _, _, true, rfl, .ty "bool", .base (.bl _), kit_ty (by decide +kernel), q _ _ (Same.refl _) go⟩
        | int i _ => exact ⟨_, rfl, _, _, _, _, false, rfl, .ty "bool", .base (.int _), kit_ty (by decide +kernel), q _ _ (Same.refl _) go⟩
        | str _ => exact ⟨_, rfl, _, _, _, _, false, rfl, .ty "bool", .base (.str _), kit_ty (by decide +kernel), q _ _ (Same.refl _) go⟩
      · have ez : zs = (xs.map isB).map V.bl := by
          have := Lm.list_is (by rw [ly, List.length_map]) hR
          rw [this, List.map_map]
          rfl
        subst ez
        refine ⟨D, xs.map isB, rfl, SqL.of hy, _, rfl, ?_⟩
        cases hb : (xs.map isB).any id with
        | true =>
          refine iteT ?_
          have ne : isF (.tup xs) y = false := decide_eq_false fun e => by
            obtain ⟨b, mb, hbt⟩ := List.any_eq_true.mp hb
            obtain ⟨x, mx, rfl⟩ := List.mem_map.mp mb
            rw [e] at mx
            rw [show id (isB x) = isB x from rfl, fvs_nb x mx] at hbt
            cases hbt
          have k := k _ s7
          rw [ne] at k
          exact k
        | false =>
          refine iteF ?_
          have nb : ∀ x ∈ xs, isB x = false := fun x m => by
            cases q : isB x with
            | false => rfl
            | true =>
              have : (xs.map isB).any id = true := List.any_eq_true.mpr ⟨true, List.mem_map.mpr ⟨x, m, q⟩, rfl⟩
              rw [this] at hb; cases hb
          refine ⟨_, rfl, _, rfl, p, dx, fs, rfl, s7 _ _ hp, l8 _ (by decide) (by decide) (by decide) (by decide) (by decide) (by decide), ?_⟩
          refine ⟨p, y, rfl, hL.k s7, fun H8 u s8 hu => ?_⟩
          have e1 := eqvAll_sc scs (fvs_sc hok) nb fvs_nb
          refine ⟨.tuple (xs.map scD), .tuple ((fvs y).map scD), .tup (sameT (s7.trans s8) hr) (scs_dp scs), .tup (SqT.of hu) (scs_dp (fvs_sc hok)), (scs_fine scs).shaped (by decide), (scs_fine (fvs_sc hok)).shaped (by decide), ?_⟩
          rw [PyData.eqv, e1]
          exact k _ (s7.trans s8)
end
end K15

namespace K15
open PySem L2 Wm TL Dv
section
variable {P : Program} {w : World} {K : PySem.W.Frag} {mg : Str → Option Value} {base : Heap}
/-! what all lays have -/
theorem tx_kinds : Tx "head" ∧ Tx "train" ∧ Tx "tail" ∧ Tx "pull" := by
  refine ⟨⟨by decide, ?_⟩, ⟨by decide, ?_⟩, ⟨by decide, ?_⟩, ⟨by decide, ?_⟩⟩ <;> decide +kernel
theorem find_at {α : Type} {p : α → Bool} : ∀ {L : List α} {i : Nat} {y : α}, (∀ j < i, ∀ z, L[j]? = some z → p z = false) → L[i]? = some y → p y = true → L.find? p = some y
  | [], i, y, _, e, _ => by simp at e
  | x :: L, 0, y, _, e, h => by
    have e : x = y := Option.some.inj (by simpa using e)
    subst e
    rw [List.find?_cons_of_pos h]
  | x :: L, i + 1, y, f, e, h => by
    have h0 : p x = false := f 0 (Nat.succ_pos _) x rfl
    rw [List.find?_cons_of_neg (by rw [h0]; decide)]
    exact find_at (fun j hj z hz => f (j + 1) (Nat.succ_lt_succ hj) z (by simpa using hz)) (by simpa using e) h
theorem find_none {α : Type} {p : α → Bool} {L : List α} (h : ∀ j < L.length, ∀ z, L[j]? = some z → p z = false) : L.find? p = none := by
  rw [List.find?_eq_none]
  intro z mz
  obtain ⟨j, hj, e⟩ := List.getElem_of_mem mz
  rw [h j hj z (by rw [List.getElem?_eq_getElem hj, e])]
  decide
theorem lyL_ok {ds : List Nat} {kind : Str} {ns : List Int} {e a : Int} {lo m : Nat} (N : Num ds) (hk : Tx kind) (ha : a.natAbs < 2 ^ 100) (h1 : 1 ≤ lo) (h8 : m ≤ 8) : ∀ y ∈ lyL ds kind ns e a lo m, LyOk y := fun y my => by
  unfold lyL at my
  obtain ⟨k, mk, rfl⟩ := List.mem_map.mp my
  have mk := (List.mem_filter.mp mk).1
  obtain ⟨i, hi, rfl⟩ := List.mem_range'.mp mk
  have g := good_le ds ns e a m
  have lp := len_pos ds
  refine ⟨N, hk, ha, (by show lo + 1 * i ≤ 8; omega), ?_⟩
  show a < a + ((lo + 1 * i : Nat) : Int) * len ds
  have : (1 : Int) * 1 ≤ ((lo + 1 * i : Nat) : Int) * len ds := Int.mul_le_mul (by omega) lp (by decide) (by omega)
  omega
theorem Wl.Ok.ly {m : Wl} (o : m.Ok) (c : Ca) : ∀ y ∈ m.L c, LyOk y := fun y my => by
  have e1 := o.e1
  have e2 := o.e2
  have n1 := o.n1
  have n8 := o.n8
  unfold Wl.L laysL at my
  obtain ⟨x, mx, my⟩ := List.mem_flatMap.mp my
  have Nx := o.num x mx
  obtain ⟨t1, t2, t3, t4⟩ := tx_kinds
  unfold boxL at my
  split at my
  · unfold plainL at my
    have pre : ∀ y ∈ preL x.1 m.ns m.e m.n c, LyOk y := fun y my => by
      have tr : ∀ y ∈ lyL x.1 "train" m.ns m.e 0 1 (m.n - 1), LyOk y := lyL_ok Nx t2 (by decide) (Nat.le_refl _) (by omega)
      cases c with
      | quiet => cases my
      | train => exact tr y my
      | key =>
        rcases List.mem_append.mp my with my | my
        · exact tr y my
        · unfold tailL at my
          obtain ⟨t, mt, my⟩ := List.mem_flatMap.mp my
          have mt := List.mem_range.mp mt
          have := len_le Nx
          unfold len at this
          refine lyL_ok Nx t3 (Nat.lt_of_le_of_lt (show _ ≤ 200 by omega) (by decide)) (Nat.le_refl _) n8 y my
    rcases List.mem_append.mp my with my | my
    · exact pre y my
    · unfold pullL at my
      obtain ⟨a, ma, my⟩ := List.mem_flatMap.mp my
      unfold cutL at ma
      obtain ⟨m1, m2⟩ := List.mem_filter.mp ma
      have := o.off.lo a m1
      have := of_decide_eq_true m2
      exact lyL_ok Nx t4 (Nat.lt_of_le_of_lt (show _ ≤ 1000 by omega) (by decide)) n1 n8 y my
  · cases c with
    | quiet =>
      have my : y ∈ (if headL x.1 m.ns = [] then [] else [(⟨x.1, "head", 0, 1, headL x.1 m.ns, m.e⟩ : Ly)]) := my
      split at my
      · cases my
      · rw [List.mem_singleton.mp my]
        exact ⟨Nx, t1, (by show (0 : Int).natAbs < _; decide), (by show 1 ≤ 8; decide), (by show (0 : Int) < m.e; omega)⟩
    | train => cases my
    | key => cases my
theorem ok_lay_of (T : Txt K mg) : FnOk P w K mg base (L2.CX P w) 12 T.a_lay_of T.d_lay_of ["facts", "pattern", "span", "boxes", "rounds", "case"] (sp_lay_of K T.C T.L T.CY T.CZ) := by
  refine T.F_lay_of.okX sc_lay_of (fun vs H Q E h => ?_) (fun cdv A outer s H vs Q E hr h => ?_)
  · obtain ⟨v, cv, p, b, bs, m, f, rfl, _⟩ := h
    rfl
  · obtain ⟨v, cv, p, b, bs, m, f, rfl, hf, fo, hW, mo, h⟩ := h
    refine ⟨_, (pss_cons (Lg.ps_forG (passes_of rfl) rfl rfl rfl (fun _ => rfl) rfl (by decide +kernel) (hr.mono (by decide)) (Lg.pgen3_call (ok3_lays T) (hr.mono (by decide)) (by rfl) T.g_lays T.F_lays.kp T.b_lays .nil (pa_cons (pv 1) (pa_cons (pv 2) (pa_cons (pv 3) (pa_cons (pv 4) (pa_cons (pv 5) pa_nil)))))) (St2.passLN 7 rfl (takes_of rfl rfl rfl rfl)) St2.noStop (pg_name (i := 6) sc_lay_of.nd rfl (Or.inl rfl)) (pss_one (ps_if (pt_val (pe_call (ok_are_facts_of T) (hr.mono (by decide)) (by rfl) T.g_are_facts_of T.F_are_facts_of.kp T.b_are_facts_of .nil pass0 (pa_cons (pv 0) (pa_cons (pv 6) pa_nil))))
          (pss_one (ps_ret (pv 6)))
          pss_nil)))
      (pss_one (ps_raiseLowZ rfl T.lowZ hr (takes_of rfl rfl rfl rfl) (by exact (pa_cons (pv 0) pa_nil))))), ?_⟩
    refine ⟨_, rfl, _, rfl, _, rfl, _, rfl, _, rfl, rfl, ?_⟩
    rcases h with ⟨c, rfl, kY, kN⟩ | ⟨d, hd, er⟩
    · refine ⟨p, b, bs, m, .str (caS c), rfl, hW, mo, .inl ⟨c, rfl, fun i γ A => Same H A ∧ (∃ v6, γ = [some v, some (.ref p), some (.int m.e), some (.ref b), some (.int (m.n : Nat)), some (.str (caS c)), v6]) ∧ ∀ j < i, ∀ y, (m.L c)[j]? = some y → isF f y = false,
        fun _ => False, ⟨Same.refl _, ⟨none, rfl⟩, fun j hj => absurd hj (Nat.not_lt_zero j)⟩, fun i γ A h => ⟨fun _ z => z.elim, hW.k h.1⟩, fun i γ A A' u y hP sA hy hL => ?_, fun γ A A' hP sA => ?_⟩⟩
      · obtain ⟨sH, ⟨v6, rfl⟩, hno⟩ := hP
        refine ⟨_, fun _ _ h => h, ?_⟩
        obtain ⟨lp, dx, fs, q, rfl, _⟩ := id hL
        have s1 := sH.trans sA
        refine ⟨_, rfl, _, rfl, v, lp, f, y, rfl, hf.k s1, fo, hL, mo.ly c y (List.mem_of_getElem? hy), fun H2 s2 => ⟨_, rfl, ?_⟩⟩
        cases hF : isF f y with
        | true => exact iteT ⟨_, rfl, kY y (find_at hno hy hF) _ _ (s1.trans s2) (hL.k s2)⟩
        | false =>
          refine iteF ⟨⟨s1.trans s2, ⟨_, rfl⟩, fun j hj z hz => ?_⟩, fun q o _ e => s2 q o e⟩
          by_cases e : j = i
          · rw [e, hy] at hz
            rw [← Option.some.inj hz]; exact hF
          · exact hno j (by omega) z hz
      · obtain ⟨sH, ⟨v6, rfl⟩, hno⟩ := hP
        exact ⟨_, rfl, _, rfl, fun d hd => kN (find_none hno) _ d ((sH.trans sA).trans (same_new hd)) upd_same⟩
    · exact ⟨p, b, bs, m, cv, rfl, hW, mo, .inr ⟨d, hd, fun H' dd s' e => ⟨T.nsY, fun σ hσ => er H' dd s' e⟩⟩⟩
end
end K15

namespace K15
open PySem L2 Wm TL Dv
section
variable {P : Program} {w : World} {K : PySem.W.Frag} {mg : Str → Option Value} {base : Heap}
theorem ok_says (T : Txt K mg) : FnOk P w K mg base CX0 1 T.a_says T.d_says ["_law_told", "_law_due"] (sp_says K) := by
  refine T.F_says.ok sc_says (fun vs H Q E h => ?_) (fun cdv A outer s H vs Q E hr h => ?_)
  · obtain ⟨a, b, rfl, _⟩ := h
    rfl
  · obtain ⟨a, b, rfl, k⟩ := h
    refine ⟨_, (pss_one (ps_ret (pe_and (pe_callB call_isi (by rfl) T.z_isinstance (by decide +kernel) (pa_cons (pv 0) (pa_cons (pe_bltn (v := V.ty "bool") (by rfl) T.z_bool (by decide +kernel) rfl) pa_nil))) (pe_one (pe_cmpR op_eq (pv 0) (pv 1) (nomark _)))))), ?_⟩
    refine ⟨_, rfl, _, _, _, _, true, rfl, .ty "bool", .base (.bl _), kit_ty (by decide +kernel), true, rfl, iteT ?_⟩
    refine ⟨_, rfl, _, rfl, ?_⟩
    have e : decide (V.bl a = V.bl b) = decide (a = b) := decide_eq_decide.mpr ⟨fun z => V.bl.inj z, fun z => by rw [z]⟩
    refine ⟨rfl, ?_⟩
    rw [e]
    exact k
theorem join_num : ∀ ds : List Nat, Txt.join "" (ds.map fun d => numS [d]) = numS ds := fun ds => by
  refine ext_tl ?_
  rw [tl_join0, List.map_map]
  induction ds with
  | nil => rfl
  | cons d ds ih =>
    rw [List.map_cons, List.flatten_cons, ih]
    rfl
theorem ok_digits (T : Txt K mg) : FnOk P w K mg base CX0 2 T.a_digits T.d_digits ["_law_bag_here", "_law_many", "_law_top"] (sp_digits K) := by
  refine T.F_digits.ok sc_digits (fun vs H Q E h => ?_) (fun cdv A outer s H vs Q E hr h => ?_)
  · obtain ⟨b, n, many, top, rfl, _⟩ := h
    rfl
  · obtain ⟨b, n, many, top, rfl, bag, hn, m4, t1, t4, k⟩ := h
    refine ⟨_, (pss_one (ps_ret (pe_join pe_str (pe_lc (own := [("_law_k", 3)]) (g := gName 3) (tt := tYes) rfl sc_digits.nd (pi_range1 (by rfl) T.z_range (pa_cons (pv 1) pa_nil)) (blkOk_by (own := [("_law_k", 3)]) (N := nm_digits) (sc := (defScope s_digits)) (by decide +kernel)) (fun _ _ _ _ _ => pg_name (i := 3) sc_digits.nd rfl (Or.inl rfl)) (fun _ _ _ _ _ => pts_nil) (fun _ _ _ _ _ => (pe_callTy call_str_int (by rfl) T.z_str (by decide +kernel) (pa_cons (pe_op op_add pe_int (pe_call (ok_draw T) (hr.mono (by decide)) (by rfl) T.g_draw T.F_draw.kp T.b_draw .nil pass0 (pa_cons (pv 0) (pa_cons (pv 2) pa_nil)))) pa_nil))))))), ?_⟩
    refine ⟨⟨_, rfl⟩, _, rfl, _, rfl, by omega, by omega, fun D hD => ?_⟩
    rw [Int.toNat_natCast]
    refine lc_it walk_range (fun i A => ∃ ds : List Nat, ds.length = i ∧ (∀ d ∈ ds, 1 ≤ d ∧ d ≤ top) ∧ A D = some (.lst (ds.map fun d => V.str (numS [d]))) ∧ Bag A b (n + i) ∧ But b H A) ⟨[], rfl, fun _ m => absurd m List.not_mem_nil, upd_same, bag.keep (same_new hD), But.of (same_new hD)⟩ (fun _ _ _ _ => trivial) (fun i v A A' hi hP hY => ?_) (fun A hP => ?_)
    · obtain ⟨ds, el, hd, hL, bagA, butA⟩ := hP
      obtain ⟨rfl, rfl⟩ := hY
      have Db := Lm.bag_off bag hD
      refine ⟨rfl, yesT ?_⟩
      refine ⟨_, rfl, _, rfl, b, _, top, rfl, by omega, by omega, bagA, by omega, fun A2 g g0 g1 bag2 but2 => ?_⟩
      obtain ⟨j, ej⟩ : ∃ j : Nat, (1 : Int) + g = (j : Nat) := ⟨(1 + g).toNat, by omega⟩
      have j9 : 1 ≤ j ∧ j ≤ 9 := by omega
      refine ⟨_, _, rfl, rfl, ?_⟩
      (try dsimp only)
      rw [ej]
      refine ⟨_, rfl, dig_log j9, ?_⟩
      rw [dig_str j9]
      have hL2 := but2.keep _ _ Db hL
      refine ⟨_, hL2, by rw [List.length_map]; exact small1000 (by omega), ds ++ [j], by rw [len_snoc, el], fun x mx => ?_, by rw [upd_same, List.map_append]; rfl, ?_, ?_⟩
      · rcases List.mem_append.mp mx with mx | mx
        · exact hd x mx
        · rw [List.mem_singleton.mp mx]; omega
      · exact bag.put hD (butA.trans but2) bag2
      · exact (butA.trans but2).put hD
    · obtain ⟨ds, el, hd, hL, bagA, butA⟩ := hP
      have hL2 : A D = some (.lst ((ds.map fun d => numS [d]).map V.str)) := by rw [hL, List.map_map]; rfl
      refine ⟨_, D, ds.map fun d => numS [d], rfl, rfl, .inl (SqL.of hL2), ?_, ?_⟩
      · have : ((ds.map fun d => numS [d]).map (·.length)).sum = ds.length := by
          clear hL hL2 el hd
          induction ds with
          | nil => rfl
          | cons x xs ih => rw [List.map_cons, List.map_cons, List.sum_cons, ih, List.length_cons]; show 1 + xs.length = _; omega
        rw [this]
        show ds.length + (ds.map fun d => numS [d]).length * 0 ≤ _
        omega
      rw [join_num]
      exact k _ ds el hd bagA butA
theorem ok_center (T : Txt K mg) : FnOk P w K mg base CX0 3 T.a_center T.d_center ["_law_bag_here"] (sp_center K) := by
  refine T.F_center.ok sc_center (fun vs H Q E h => ?_) (fun cdv A outer s H vs Q E hr h => ?_)
  · obtain ⟨b, n, rfl, _⟩ := h
    rfl
  · obtain ⟨b, n, rfl, bag, hn, k⟩ := h
    refine ⟨_, (pss_cons (ps_if (pt_cmpR op_eq (pe_call (ok_draw T) (hr.mono (by decide)) (by rfl) T.g_draw T.F_draw.kp T.b_draw .nil pass0 (pa_cons (pv 0) (pa_cons pe_int pa_nil))) pe_int (nomark _))
        (pss_one (ps_ret (pe_call (ok_number T) (hr.mono (by decide)) (by rfl) T.g_number T.F_number.kp T.b_number .nil pass0 (pa_cons (pv 0) pa_nil))))
        pss_nil)
      (pss_one (ps_ret (pe_call (ok_digits T) (hr.mono (by decide)) (by rfl) T.g_digits T.F_digits.kp T.b_digits .nil pass0 (pa_cons (pv 0) (pa_cons (pe_op op_add pe_int (pe_call (ok_draw T) (hr.mono (by decide)) (by rfl) T.g_draw T.F_draw.kp T.b_draw .nil pass0 (pa_cons (pv 0) (pa_cons pe_int pa_nil)))) (pa_cons pe_int pa_nil))))))), ?_⟩
    refine ⟨_, rfl, b, n, 4, rfl, by decide, by decide, bag, by omega, fun H1 d d0 d3 bag1 but1 => ?_⟩
    refine ⟨rfl, _, rfl, ite2 (fun c => ?_) (fun c => ?_)⟩
    · exact ⟨_, rfl, b, n + 1, rfl, bag1, by omega, fun H2 ds N bag2 but2 => k _ ds N (bag2.mono (by omega)) (but1.trans but2)⟩
    refine ⟨_, rfl, _, rfl, b, n + 1, 4, rfl, by decide, by decide, bag1, by omega, fun H2 e e0 e1 bag2 but2 => ?_⟩
    obtain ⟨m, em⟩ : ∃ m : Nat, (1 : Int) + e = (m : Nat) := ⟨(1 + e).toNat, by omega⟩
    refine ⟨_, _, rfl, rfl, b, n + 2, m, 4, by rw [← em]; rfl, bag2, by omega, by omega, by decide, by decide, fun H3 ds el hd bag3 but3 => ?_⟩
    have hs : ds.sum ≤ 4 * ds.length := by
      clear k el bag3 but3
      induction ds with
      | nil => exact Nat.le_refl _
      | cons x xs ih =>
        have h1 := hd x List.mem_cons_self
        have h2 := ih fun d m => hd d (List.mem_cons_of_mem _ m)
        rw [List.sum_cons, List.length_cons]
        omega
    exact k _ ds ⟨by omega, by omega, fun x mx => by have := hd x mx; omega, by omega⟩ (bag3.mono (by omega)) ((but1.trans but2).trans but3)
end
end K15

namespace K15
open PySem L2 Wm TL Dv
section
variable {P : Program} {w : World} {K : PySem.W.Frag} {mg : Str → Option Value} {base : Heap}
theorem take_sum : ∀ (ds : List Nat) (i : Nat), (ds.take i).sum ≤ ds.sum
  | [], i => by simp
  | d :: ds, 0 => by simp
  | d :: ds, i + 1 => by
    rw [List.take_succ_cons, List.sum_cons, List.sum_cons]
    have := take_sum ds i
    omega
theorem numS_drop (ds : List Nat) (k : Nat) (h : k ≤ ds.length) : cutS (numS ds) (some (k : Int)) none = numS (ds.drop k) := by
  refine PyProof.Rows.ext_toList ?_
  show ((codes ds).drop (HT.sIx (numS ds).length 0 (some (k : Int)))).take (HT.sIx (numS ds).length (numS ds).length none - HT.sIx (numS ds).length 0 (some (k : Int))) = codes (ds.drop k)
  rw [numS_len, HT.sIx_nat, HT.sIx_none, Nat.min_eq_left h, List.take_of_length_le (by rw [List.length_drop]; unfold codes; rw [List.length_map]; exact Nat.le_refl _)]
  simp only [codes, List.map_drop]
theorem numS_get (ds : List Nat) (i : Nat) (h : i < ds.length) : atI (numS ds).cps.toList (i : Int) = some (ds[i] + 48) := by
  refine atI_nat ?_
  rw [numS_cps]
  unfold codes
  rw [List.getElem?_map, List.getElem?_eq_getElem h]
  rfl
theorem numS_take (ds : List Nat) (k : Nat) : cutS (numS ds) none (some (k : Int)) = numS (ds.take k) := by
  refine PyProof.Rows.ext_toList ?_
  show ((codes ds).drop (HT.sIx (numS ds).length 0 none)).take (HT.sIx (numS ds).length (numS ds).length (some (k : Int)) - HT.sIx (numS ds).length 0 none) = codes (ds.take k)
  rw [numS_len, HT.sIx_nat, HT.sIx_none, List.drop_zero, Nat.sub_zero]
  have e : (codes ds).length = ds.length := by unfold codes; rw [List.length_map]
  have : (codes ds).take (min k ds.length) = (codes ds).take k := by
    rw [List.take_eq_take_iff]
    omega
  rw [this]
  simp only [codes, List.map_take]
theorem ok_beside (T : Txt K mg) : FnOk P w K mg base CX0 3 T.a_beside T.d_beside ["_law_bag_here", "_law_center_here"] (sp_beside K) := by
  refine T.F_beside.ok sc_beside (fun vs H Q E h => ?_) (fun cdv A outer s H vs Q E hr h => ?_)
  · obtain ⟨b, n, ds, rfl, _⟩ := h
    rfl
  · obtain ⟨b, n, ds, rfl, N, bag, hn, k⟩ := h
    have nl := N.len
    have np := N.pos
    have ns := N.sum
    refine ⟨_, (pss_cons (ps_set (i := 2) sc_beside.nd rfl (Or.inl rfl) (pe_call (ok_draw T) (hr.mono (by decide)) (by rfl) T.g_draw T.F_draw.kp T.b_draw .nil pass0 (pa_cons (pv 0) (pa_cons pe_int pa_nil))))
      (pss_cons (ps_if (pt_cmpR op_eq (pv 2) pe_int (nomark _))
        (pss_one (ps_ret (pe_call (ok_number T) (hr.mono (by decide)) (by rfl) T.g_number T.F_number.kp T.b_number .nil pass0 (pa_cons (pv 0) pa_nil))))
        pss_nil)
      (C8.pss_cut (ps_if (pt_cmpR op_eq (pv 2) pe_int (nomark _))
        (pss_cons (ps_set (i := 3) sc_beside.nd rfl (Or.inl rfl) (pe_call (ok_draw T) (hr.mono (by decide)) (by rfl) T.g_draw T.F_draw.kp T.b_draw .nil pass0 (pa_cons (pv 0) (pa_cons (pe_callB call_len_str (by rfl) T.z_len PySem.boot_len (pa_cons (pv 1) pa_nil)) pa_nil))))
        (pss_one (ps_if (pt_cmpR op_gt (pe_callTy call_int_str (by rfl) T.z_int (by decide +kernel) (pa_cons (pe_ix ix_str (pv 1) (pv 3) (fun _ _ => rfl)) pa_nil)) pe_int (nomark _))
          (pss_cons (ps_set (i := 4) sc_beside.nd rfl (Or.inl rfl) (pe_op op_add_str (pe_op op_add_str (pe_slice sl_str (pv 1) po_none (po_some (pv 3))) (pe_callTy call_str_int (by rfl) T.z_str (by decide +kernel) (pa_cons (pe_op op_add pe_int (pe_call (ok_draw T) (hr.mono (by decide)) (by rfl) T.g_draw T.F_draw.kp T.b_draw .nil pass0 (pa_cons (pv 0) (pa_cons (pe_op op_sub (pe_callTy call_int_str (by rfl) T.z_int (by decide +kernel) (pa_cons (pe_ix ix_str (pv 1) (pv 3) (fun _ _ => rfl)) pa_nil)) pe_int) pa_nil)))) pa_nil))) (pe_call (ok_digits T) (hr.mono (by decide)) (by rfl) T.g_digits T.F_digits.kp T.b_digits .nil pass0 (pa_cons (pv 0) (pa_cons (pe_op op_sub pe_int (pv 3)) (pa_cons pe_int pa_nil))))))
          (pss_cons (ps_if (pt_cmpR op_le (pe_callB (cr_sum rfl) (by rfl) T.z_sum (by decide +kernel) (pa_cons (pe_lc (own := [("_law_sign", 5)]) (g := gName 5) (tt := tYes) rfl sc_beside.nd (pi_str (pv 4)) (blkOk_by (own := [("_law_sign", 5)]) (N := nm_beside) (sc := (defScope s_beside)) (by decide +kernel)) (fun _ _ _ _ _ => pg_name (i := 5) sc_beside.nd rfl (Or.inl rfl)) (fun _ _ _ _ _ => pts_nil) (fun _ _ _ _ _ => (pe_callTy call_int_str (by rfl) T.z_int (by decide +kernel) (pa_cons (pv 5) pa_nil)))) pa_nil)) pe_int (nomark _))
            (pss_one (ps_ret (pv 4)))
            pss_nil)
          (pss_one (ps_ret (pe_slice sl_str (pv 4) po_none (po_some (pe_op op_add (pv 3) pe_int)))))))
          pss_nil)))
        pss_nil)
      (pss_one (ps_ret (pe_call (ok_digits T) (hr.mono (by decide)) (by rfl) T.g_digits T.F_digits.kp T.b_digits .nil pass0 (pa_cons (pv 0) (pa_cons (pe_op op_add pe_int (pe_call (ok_draw T) (hr.mono (by decide)) (by rfl) T.g_draw T.F_draw.kp T.b_draw .nil pass0 (pa_cons (pv 0) (pa_cons pe_int pa_nil)))) (pa_cons pe_int pa_nil))))))))), ?_⟩
    refine ⟨_, rfl, b, n, 4, rfl, by decide, by decide, bag, by omega, fun H1 way w0 w1 bag1 but1 => ?_⟩
    refine ⟨_, rfl, rfl, _, rfl, ite2 (fun c => ?_) (fun c => ?_)⟩
    · exact ⟨_, rfl, b, _, rfl, bag1, by omega, fun H2 es M bag2 but2 => k _ es M (bag2.mono (by omega)) (but1.trans but2)⟩
    refine ⟨fun σ A => (∃ v3 v4, σ = [some (.ref b), some (.str (numS ds)), some (.int way), v3, v4, none]) ∧ Bag A b (n + 2) ∧ But b H A, ?_, ?_⟩
    · refine ⟨_, rfl, rfl, _, rfl, ite2 (fun c1 => ?_) (fun c1 => ?_)⟩
      · refine ⟨_, rfl, _, rfl, _, rfl, by rw [numS_len]; exact Nat.le_of_lt (small1000 (by omega)), ?_⟩
        rw [numS_len]
        refine ⟨b, _, ds.length, rfl, by omega, by omega, bag1, by omega, fun H2 at' a0 a1 bag2 but2 => ?_⟩
        obtain ⟨i, ei⟩ : ∃ i : Nat, at' = (i : Nat) := ⟨at'.toNat, by omega⟩
        subst ei
        have hi : i < ds.length := by omega
        have hx := N.dig _ (List.getElem_mem hi)
        have gx := numS_get ds i hi
        have xs0 := take_sum ds (i + 1)
        have tk := tk_succ (List.getElem?_eq_getElem hi)
        generalize ds[i] = x at hx gx tk
        have sml : ∀ us : List Nat, us.length ≤ 4 → (numS us).length ≤ sizeLine := fun us h => by rw [numS_len]; exact Nat.le_of_lt (small1000 (by omega))
        refine ⟨_, rfl, _, rfl, _, _, _, rfl, rfl, sml ds (by omega), gx, _, _, rfl, dig_int hx, (by show 1 ≤ 640; decide), _, _, rfl, rfl, _, rfl, ite2 (fun c2 => ?_) (fun c2 => ?_)⟩
        · have x2 : (1 : Int) < (x : Nat) := of_decide_eq_true c2
          refine ⟨_, rfl, _, rfl, _, rfl, _, rfl, sml ds (by omega), ?_⟩
          rw [numS_take]
          refine ⟨_, rfl, _, rfl, _, rfl, _, _, _, rfl, rfl, sml ds (by omega), gx, _, _, rfl, dig_int hx, (by show 1 ≤ 640; decide), _, _, rfl, rfl, ?_⟩
          refine ⟨b, _, (x : Int) - 1, rfl, by omega, by omega, bag2, by omega, fun H3 g g0 g1 bag3 but3 => ?_⟩
          obtain ⟨y, ey⟩ : ∃ y : Nat, (1 : Int) + g = (y : Nat) := ⟨(1 + g).toNat, by omega⟩
          have y9 : 1 ≤ y ∧ y ≤ 9 := by omega
          refine ⟨_, _, rfl, rfl, ?_⟩
          (try dsimp only)
          rw [ey]
          have tl : (ds.take i).length = i := by rw [List.length_take]; omega
          refine ⟨_, rfl, dig_log y9, _, _, rfl, rfl, ?_, ?_⟩
          · rw [dig_str y9, numS_len, numS_len, tl]
            exact Nat.le_of_lt (small1000 (by show i + 1 ≤ 1000; omega))
          rw [dig_str y9, numS_app]
          refine ⟨_, rfl, _, rfl, _, _, rfl, rfl, b, _, 3 - i, 2, ?_, bag3, by omega, by omega, by decide, by decide, fun H4 es el hd bag4 but4 => ?_⟩
          · show [V.ref b, V.int ((3 : Int) - (i : Nat)), V.int 2] = _
            rw [show (3 : Int) - ((i : Nat) : Int) = ((3 - i : Nat) : Int) by omega]
            rfl
          have but04 := ((but1.trans but2).trans but3).trans but4
          have l1 : (ds.take i ++ [y]).length = i + 1 := by rw [List.length_append, tl]; rfl
          refine ⟨_, _, rfl, rfl, by rw [numS_len, numS_len, l1, el]; exact Nat.le_of_lt (small1000 (by omega)), ?_⟩
          rw [numS_app]
          have dg : ∀ z ∈ ds.take i ++ [y] ++ es, 1 ≤ z ∧ z ≤ 9 := fun z mz => by
            rcases List.mem_append.mp mz with mz | mz
            · rcases List.mem_append.mp mz with mz | mz
              · exact N.dig z (List.mem_of_mem_take mz)
              · rw [List.mem_singleton.mp mz]; exact y9
            · have := hd z mz; omega
          have lw : (ds.take i ++ [y] ++ es).length = 4 := by rw [List.length_append, l1, el]; omega
          have sx : (ds.take i ++ [y]).sum ≤ 24 := by
            rw [tk, sum_snoc] at xs0
            rw [sum_snoc]
            omega
          have tw : (ds.take i ++ [y] ++ es).take (i + 1) = ds.take i ++ [y] := by rw [List.take_append_of_le_length (by omega), List.take_of_length_le (by omega)]
          have N2 : Num (ds.take i ++ [y]) := ⟨by omega, by omega, fun z mz => dg z (List.mem_append_left _ mz), sx⟩
          generalize ds.take i ++ [y] ++ es = ws at dg lw tw ⊢
          refine ⟨_, rfl, _, rfl, fun D hD => ?_⟩
          refine lc_it walk_str (fun i A => Same H4 A ∧ A D = some (.lst ((ws.take i).map fun (d : Nat) => V.int (d : Int)))) ⟨same_new hD, upd_same⟩ (fun _ _ _ _ => trivial) (fun i z A A' hi hP hY => ?_) (fun A hP => ?_)
          · obtain ⟨sm, hl⟩ := hP
            obtain ⟨rfl, c, hc, rfl⟩ := hY
            rw [numS_size] at hi
            rw [numS_at ws i hi] at hc
            have hc' := (Option.some.inj hc).symm
            subst hc'
            refine ⟨rfl, yesT ?_⟩
            refine ⟨_, rfl, _, _, rfl, dig_int (dg _ (List.getElem_mem hi)), (by show 1 ≤ 640; decide), _, hl, by rw [List.length_map, List.length_take]; exact small1000 (by omega), ?_⟩
            refine ⟨same_mut sm hD, ?_⟩
            rw [upd_same, take_succ_map _ (List.getElem?_eq_getElem hi)]
          obtain ⟨sA, hl⟩ := hP
          rw [numS_size, List.take_length] at hl
          refine ⟨D, ws.map fun (d : Nat) => (d : Int), rfl, SqL.of (by rw [hl, List.map_map]; rfl), _, _, rfl, rfl, ?_⟩
          rw [sum_cast]
          have bag5 := bag4.keep sA
          have but5 := but04.trans (But.of sA)
          refine ⟨_, rfl, ite2 (fun c3 => ?_) (fun c3 => ?_)⟩
          · have le : ws.sum ≤ 24 := by have := of_decide_eq_true c3; omega
            exact ⟨_, rfl, k _ ws ⟨by omega, by omega, dg, le⟩ (bag5.mono (by omega)) but5⟩
          · refine ⟨_, rfl, _, rfl, _, _, rfl, rfl, _, rfl, _, rfl, by rw [numS_len]; exact Nat.le_of_lt (small1000 (by omega)), ?_⟩
            (try dsimp only)
            rw [show ((i : Nat) : Int) + 1 = ((i + 1 : Nat) : Int) from rfl, numS_take, tw]
            exact k _ _ N2 (bag5.mono (by omega)) but5
        · exact ⟨⟨_, _, rfl⟩, bag2.mono (by omega), but1.trans but2⟩
      · exact ⟨⟨_, _, rfl⟩, bag1.mono (by omega), but1⟩
    rintro σ A ⟨⟨v3, v4, rfl⟩, bagA, butA⟩
    refine ⟨_, rfl, _, rfl, b, _, 2, rfl, by decide, by decide, bagA, by omega, fun H2 e e0 e1 bag2 but2 => ?_⟩
    obtain ⟨m, em⟩ : ∃ m : Nat, (1 : Int) + e = (m : Nat) := ⟨(1 + e).toNat, by omega⟩
    refine ⟨_, _, rfl, rfl, b, _, m, 3, by rw [← em]; rfl, bag2, by omega, by omega, by decide, by decide, fun H3 es el hd bag3 but3 => ?_⟩
    have hs : es.sum ≤ 3 * es.length := by
      clear k el bag3 but3
      induction es with
      | nil => exact Nat.le_refl _
      | cons x xs ih =>
        have h1 := hd x List.mem_cons_self
        have h2 := ih fun d m => hd d (List.mem_cons_of_mem _ m)
        rw [List.sum_cons, List.length_cons]
        omega
    exact k _ es ⟨by omega, by omega, fun x mx => by have := hd x mx; omega, by omega⟩ (bag3.mono (by omega)) ((butA.trans but2).trans but3)
end
end K15

namespace K15
open PySem L2 Wm TL Dv
section
variable {P : Program} {w : World} {K : PySem.W.Frag} {mg : Str → Option Value} {base : Heap}
theorem bag_tup {H : Hp} {b t : Addr} {n : Nat} {xs : List V} (bag : Bag H b n) (h : H t = some (.tup xs)) : t ≠ b := fun e => by
  obtain ⟨_, _, _, _, _, _, hb, _⟩ := bag
  rw [e, hb] at h
  cases h
theorem BosAt.but {H H' : Hp} {b : Addr} {n : Nat} {vs : List V} {xs : List Bo} (h : BosAt H vs xs) (bag : Bag H b n) (e : But b H H') : BosAt H' vs xs := by
  induction h with
  | nil => exact .nil
  | cons a _ ih =>
    obtain ⟨t, rfl, ht⟩ := a
    exact .cons ⟨t, rfl, e.keep _ _ (bag_tup bag ht) ht⟩ ih
theorem BosAt.put {H : Hp} {D : Addr} {o : HO} {ys : List V} {vs : List V} {xs : List Bo} (h : BosAt H vs xs) (hD : H D = some (.lst ys)) : BosAt (upd H D o) vs xs := by
  induction h with
  | nil => exact .nil
  | cons a _ ih =>
    obtain ⟨t, rfl, ht⟩ := a
    exact .cons ⟨t, rfl, by rw [upd_ne (fun e => by rw [e, hD] at ht; cases ht)]; exact ht⟩ ih
theorem BosAt.app {H : Hp} {vs ws : List V} {xs ys : List Bo} (h : BosAt H vs xs) (g : BosAt H ws ys) : BosAt H (vs ++ ws) (xs ++ ys) := by
  induction h with
  | nil => exact g
  | cons a _ ih => exact .cons a ih
theorem flat_strs (xs : List Str) : (xs.map V.str).all flatV = true := by
  rw [List.all_eq_true]
  intro x m
  obtain ⟨y, _, rfl⟩ := List.mem_map.mp m
  rfl
theorem sort3 {d : Int} (h0 : 0 ≤ d) (h1 : d < 3) : ∃ s : Bool, atI [V.str "plain", V.str "plain", V.str "shy"] d = some (.str (soS s)) := by
  have c : d = 0 ∨ d = 1 ∨ d = 2 := by omega
  rcases c with z | z | z <;> subst z
  · exact ⟨true, rfl⟩
  · exact ⟨true, rfl⟩
  · exact ⟨false, rfl⟩
theorem ok_boxes (T : Txt K mg) : FnOk P w K mg base CX0 4 T.a_boxes T.d_boxes ["_law_bag_here", "_law_center_here", "_law_many"] (sp_boxes K) := by
  refine T.F_boxes.ok sc_boxes (fun vs H Q E h => ?_) (fun cdv A outer s H vs Q E hr h => ?_)
  · obtain ⟨b, n, many, ds, rfl, _⟩ := h
    rfl
  · obtain ⟨b, n, many, ds, rfl, N, bag, hn, m4, k⟩ := h
    refine ⟨_, (pss_cons (ps_set (i := 3) sc_boxes.nd rfl (Or.inl rfl) (pe_lst pa_nil))
      (pss_cons (ps_for PassesOwn.never rfl (pi_range1 (by rfl) T.z_range (pa_cons (pv 2) pa_nil)) (pg_name (i := 4) sc_boxes.nd rfl (Or.inl rfl))
        (pss_cons (ps_set (i := 5) sc_boxes.nd rfl (Or.inl rfl) (pe_call (ok_beside T) (hr.mono (by decide)) (by rfl) T.g_beside T.F_beside.kp T.b_beside .nil pass0 (pa_cons (pv 0) (pa_cons (pv 1) pa_nil))))
        (pss_one (ps_if (PW.pt (pw_and (pt_cmpR op_ne (pv 5) (pv 1) (nomark _)) (pw_and1 (pt_cmpR op_notIn_seq (pv 5) (pe_lc (own := [("_law_box", 6)]) (g := gName 6) (tt := tYes) rfl sc_boxes.nd (pi_list (pv 3)) (blkOk_by (own := [("_law_box", 6)]) (N := nm_boxes) (sc := (defScope s_boxes)) (by decide +kernel)) (fun _ _ _ _ _ => pg_name (i := 6) sc_boxes.nd rfl (Or.inl rfl)) (fun _ _ _ _ _ => pts_nil) (fun _ _ _ _ _ => (pe_ix (show IxR _ (rIxT K) from ix_tup) (pv 6) pe_int (fun _ _ => rfl)))) rfl))))
          (pss_one (ps_expr (pe_bm PySem.F.plainAttrs_list PySem.F.slot_list_append PySem.F.type_list_append mt_append (pv 3) (pa_cons (pe_tup (pa_cons (pv 5) (pa_cons (pe_ix ix_list (pe_lst (pa_cons pe_str (pa_cons pe_str (pa_cons pe_str pa_nil)))) (pe_call (ok_draw T) (hr.mono (by decide)) (by rfl) T.g_draw T.F_draw.kp T.b_draw .nil pass0 (pa_cons (pv 0) (pa_cons pe_int pa_nil))) (fun _ _ => rfl)) pa_nil))) pa_nil))))
          pss_nil))))
      (pss_one (ps_ret (pe_callTy call_tuple_of (by rfl) T.z_tuple (by decide +kernel) (pa_cons (pv 3) pa_nil)))))), ?_⟩
    refine ⟨by show 0 ≤ sizeLine; decide, fun D hD => ?_⟩
    have Db := Lm.bag_off bag hD
    refine ⟨_, rfl, _, rfl, by omega, by omega, ?_⟩
    rw [Int.toNat_natCast]
    refine for_range (fun i σ A => ∃ xs bs v4 v5, σ = [some (.ref b), some (.str (numS ds)), some (.int (many : Nat)), some (.ref D), v4, v5, none] ∧ A D = some (.lst bs) ∧ BosAt A bs xs ∧ xs.length ≤ i ∧ ((∀ x ∈ xs, Num x.1) ∧ (xs.map (·.1)).Nodup) ∧ Bag A b (n + 9 * i) ∧ But b H A)
      ⟨[], [], none, none, rfl, upd_same, .nil, Nat.le_refl _, ⟨fun _ m => absurd m List.not_mem_nil, List.nodup_nil⟩, bag.keep (same_new hD), But.of (same_new hD)⟩ (fun i σ A hi hP => ?_) (fun σ A hP => ?_)
    · obtain ⟨xs, bs, v4, v5, rfl, hL, hB, lx, hN, bagA, butA⟩ := hP
      refine ⟨_, rfl, _, rfl, b, _, ds, rfl, N, bagA, by omega, fun A1 es M bag1 but1 => ?_⟩
      have hL1 := but1.keep _ _ Db hL
      have hB1 := hB.but bagA but1
      have b1 := butA.trans but1
      have no : ∃ xs' bs' v4' v5', ([some (.ref b), some (.str (numS ds)), some (.int (many : Nat)), some (.ref D), some (.int (0 + (i : Nat))), some (.str (numS es)), none] : L2.St) = [some (.ref b), some (.str (numS ds)), some (.int (many : Nat)), some (.ref D), v4', v5', none] ∧ A1 D = some (.lst bs') ∧ BosAt A1 bs' xs' ∧ xs'.length ≤ i + 1 ∧ ((∀ x ∈ xs', Num x.1) ∧ (xs'.map (·.1)).Nodup) ∧ Bag A1 b (n + 9 * (i + 1)) ∧ But b H A1 := ⟨xs, bs, _, _, rfl, hL1, hB1, by omega, hN, bag1.mono (by omega), b1⟩
      refine ⟨_, rfl, _, rfl, rfl, _, rfl, ite2 (fun c => ?_) (fun c => no)⟩
      refine ⟨_, rfl, _, rfl, D, rfl, ⟨_, SqL.of hL1⟩, fun D2 hD2 => ?_⟩
      have lb := hB1.len
      refine lc_it walk_list (fun j B => Same A1 B ∧ B D2 = some (.lst (((xs.take j).map fun x => numS x.1).map V.str))) ⟨same_new hD2, upd_same⟩ (fun j B _ h => SqL.of (h.1 _ _ hL1)) (fun j v B B' hj hP hY => ?_) (fun B hP => ?_)
      · obtain ⟨sB, hB2⟩ := hP
        obtain ⟨rfl, hv⟩ := hY
        obtain ⟨x, hx, t, rfl, ht⟩ := (hB1.k sB).at j v hv
        refine ⟨rfl, yesT ?_⟩
        refine ⟨_, rfl, t, _, 0, _, rfl, rfl, SqT.of ht, atI_nat (j := 0) rfl, _, hB2, by rw [List.length_map, List.length_map, List.length_take]; exact small1000 (by omega), same_mut sB hD2, ?_⟩
        rw [upd_same, tk_succ hx, List.map_append, List.map_append]
        rfl
      obtain ⟨sB, hB2⟩ := hP
      have hL2 := sB _ _ hL1
      have bagB := bag1.keep sB
      have b2 := b1.trans (But.of sB)
      refine ⟨D2, _, rfl, .inl (SqL.of hB2), rfl, flat_strs _, _, rfl, ite2 (fun c3 => ?_) (fun c3 => ?_)⟩
      · refine ⟨_, rfl, .inl ⟨rfl, _, SqL.of hL2⟩, ?_⟩
        refine ⟨_, rfl, by show 3 ≤ sizeLine; decide, fun u hu => ?_⟩
        have s3 := same_new (o := .lst [.str "plain", .str "plain", .str "shy"]) hu
        have hu3 : upd B u (.lst [.str "plain", .str "plain", .str "shy"]) u = some (.lst [.str "plain", .str "plain", .str "shy"]) := upd_same
        have ub := Lm.bag_off bagB hu
        generalize upd B u (.lst [.str "plain", .str "plain", .str "shy"]) = B3 at s3 hu3 ⊢
        refine ⟨_, rfl, b, _, 3, rfl, by decide, by decide, bagB.keep s3, by omega, fun B4 g g0 g1 bag4 but4 => ?_⟩
        obtain ⟨s, hs⟩ := sort3 g0 g1
        refine ⟨u, _, g, _, rfl, rfl, SqL.of (but4.keep _ _ ub hu3), hs, by show 2 ≤ sizeLine; decide, fun t ht => ?_⟩
        have s5 := same_new (o := .tup [.str (numS es), .str (soS s)]) ht
        have ht5 : upd B4 t (.tup [.str (numS es), .str (soS s)]) t = some (.tup [.str (numS es), .str (soS s)]) := upd_same
        generalize upd B4 t (.tup [.str (numS es), .str (soS s)]) = B5 at s5 ht5 ⊢
        have hL5 := s5 _ _ (but4.keep _ _ Db (s3 _ _ hL2))
        have hB5 := ((((hB1.k sB).k s3).but (bagB.keep s3) but4)).k s5
        have b5 := (b2.trans (But.of s3)).trans (but4.trans (But.of s5))
        have lb5 := hB5.len
        refine ⟨D, bs, _, rfl, rfl, hL5, small1000 (by omega), ?_⟩
        refine ⟨xs ++ [(es, s)], bs ++ [.ref t], _, _, rfl, upd_same, (hB5.put hL5).app (.cons ⟨t, rfl, by rw [upd_ne (fun e => by rw [e, hL5] at ht5; cases ht5)]; exact ht5⟩ .nil), by rw [List.length_append]; show xs.length + 1 ≤ _; omega, ⟨fun x mx => ?_, ?_⟩, (bag.put hD b5 (bag4.keep s5)).mono (by omega), b5.put hD⟩
        rcases List.mem_append.mp mx with mx | mx
        · exact hN.1 x mx
        · rw [List.mem_singleton.mp mx]; exact M
        · rw [if_pos rfl, lb, List.take_length] at c3
          have hn : es ∉ xs.map (·.1) := fun m => by
            obtain ⟨x, mx, ex⟩ := List.mem_map.mp m
            have : inV (V.str (numS es)) (List.map V.str (List.map (fun x => numS x.1) xs)) = true := List.any_eq_true.mpr ⟨.str (numS x.1), List.mem_map.mpr ⟨_, List.mem_map.mpr ⟨x, mx, rfl⟩, rfl⟩, by rw [← ex]; show (numS x.1 == numS x.1) = true; exact beq_self_eq_true _⟩
            rw [this] at c3
            cases c3
          rw [List.map_append]
          exact List.nodup_append.mpr ⟨hN.2, List.pairwise_singleton _ _, fun a ma b mb => by
            rw [List.mem_singleton.mp mb]
            rintro rfl
            exact hn ma⟩
      · exact ⟨xs, bs, _, _, rfl, hL2, hB1.k sB, by omega, hN, bagB.mono (by omega), b2⟩
    · obtain ⟨xs, bs, v4, v5, rfl, hL, hB, lx, hN, bagA, butA⟩ := hP
      refine ⟨_, rfl, D, _, rfl, .inl ⟨SqL.of hL, fun t ht => ?_⟩⟩
      have sT := same_new (o := .tup bs) ht
      have ft : H t = none := by
        cases q : H t with
        | none => rfl
        | some o =>
          have := butA.keep _ _ (Lm.bag_off bagA ht) q
          rw [ht] at this
          cases this
      exact k _ t bs xs ft upd_same (hB.k sT) (by omega) hN.1 hN.2 ((bagA.keep sT).mono (by omega)) (butA.trans (But.of sT))
end
end K15

namespace K15
open PySem L2 Wm TL Dv
section
variable {P : Program} {w : World} {K : PySem.W.Frag} {mg : Str → Option Value} {base : Heap}
theorem ok_offsets (T : Txt K mg) : FnOk P w K mg base CX0 2 T.a_offsets T.d_offsets ["_law_bag_here", "_law_center_here"] (sp_offsets K) := by
  refine T.F_offsets.ok sc_offsets (fun vs H Q E h => ?_) (fun cdv A outer s H vs Q E hr h => ?_)
  · obtain ⟨b, n, ds, rfl, _⟩ := h
    rfl
  · obtain ⟨b, n, ds, rfl, N, bag, hn, k⟩ := h
    refine ⟨_, (pss_cons (ps_set (i := 2) sc_offsets.nd rfl (Or.inr rfl) (pe_call (ok_row T) (hr.mono (by decide)) (by rfl) T.g_row T.F_row.kp T.b_row .nil pass0 (pa_cons (pv 1) pa_nil)))
      (pss_cons (ps_setLc (i := 3) (own := [("_law_at", 4)]) (g := gName 4) rfl sc_offsets.nd rfl rfl (sw_true rfl rfl rfl (by decide +kernel)) (pi_range1 (by rfl) T.z_range (pa_cons (pe_callB call_len_seq (by rfl) T.z_len PySem.boot_len (pa_cons (pv 2) pa_nil)) pa_nil)) (blkOk_by (own := [("_law_at", 4)]) (N := nm_offsets) (sc := (defScope s_offsets)) (by decide +kernel)) (fun _ _ _ _ _ => pg_name (i := 4) sc_offsets.nd rfl (Or.inl rfl)) (fun _ _ _ _ _ => (pts_one (pt_cmpR op_eq (pe_ix (show IxR _ (rIxL K) from ix_list) (pv 2) (pv 4) (fun _ _ => rfl)) pe_int (nomark _)))) (fun _ _ _ _ _ => (pv 4)))
      (pss_cons (ps_set (i := 5) sc_offsets.nd rfl (Or.inl rfl) (pe_call (ok_draw T) (hr.mono (by decide)) (by rfl) T.g_draw T.F_draw.kp T.b_draw .nil pass0 (pa_cons (pv 0) (pa_cons pe_int pa_nil))))
      (pss_cons (ps_if (pt_cmpR op_eq (pv 5) pe_int (nomark _))
        (pss_one (ps_ret (pe_lst (pa_cons (pe_op op_cat (pv 3) (pe_lc (own := [("_law_at", 4)]) (g := gName 4) (tt := tYes) rfl sc_offsets.nd (pi_list (pv 3)) (blkOk_by (own := [("_law_at", 4)]) (N := nm_offsets) (sc := (defScope s_offsets)) (by decide +kernel)) (fun _ _ _ _ _ => pg_name (i := 4) sc_offsets.nd rfl (Or.inl rfl)) (fun _ _ _ _ _ => pts_nil) (fun _ _ _ _ _ => (pe_op op_add (pe_callB (show CallR _ _ (Kx.rLen K) from call_len_seq) (by rfl) T.z_len PySem.boot_len (pa_cons (pv 2) pa_nil)) (pv 4))))) (pa_cons (pe_op op_mul pe_int (pe_callB call_len_seq (by rfl) T.z_len PySem.boot_len (pa_cons (pv 2) pa_nil))) pa_nil)))))
        pss_nil)
      (C8.pss_cut (ps_if (pt_cmpR op_eq (pv 5) pe_int (nomark _))
        (pss_one (ps_for PassesOwn.never rfl (pi_range1 (by rfl) T.z_range (pa_cons (pe_call (ok_draw T) (hr.mono (by decide)) (by rfl) T.g_draw T.F_draw.kp T.b_draw .nil pass0 (pa_cons (pv 0) (pa_cons pe_int pa_nil))) pa_nil)) (pg_name (i := 6) sc_offsets.nd rfl (Or.inl rfl))
          (pss_one (ps_expr (pe_bm PySem.F.plainAttrs_list PySem.F.slot_list_append PySem.F.type_list_append mt_append (pv 3) (pa_cons (pe_call (ok_draw T) (hr.mono (by decide)) (by rfl) T.g_draw T.F_draw.kp T.b_draw .nil pass0 (pa_cons (pv 0) (pa_cons (pe_callB call_len_seq (by rfl) T.z_len PySem.boot_len (pa_cons (pv 2) pa_nil)) pa_nil))) pa_nil))))))
        pss_nil)
      (pss_one (ps_ret (pe_lst (pa_cons (pv 3) (pa_cons (pe_callB call_len_seq (by rfl) T.z_len PySem.boot_len (pa_cons (pv 2) pa_nil)) pa_nil)))))))))), ?_⟩
    have rl2 := row_le ds N
    have ll := SI_lens N
    have sm0 := N.sum
    have l100 := len_le N
    have l0 := len_pos ds
    refine ⟨_, rfl, ds, rfl, N, fun H1 r s1 r0 hr => ?_⟩
    have bag1 := bag.keep s1
    refine ⟨_, rfl, r, _, rfl, .inl (SqL.of hr), _, rfl, by rw [List.length_map]; omega, by rw [List.length_map]; omega, fun D hD => ?_⟩
    rw [List.length_map, Int.toNat_natCast]
    refine lc_it walk_range (fun j B => Same H1 B ∧ B D = some (.lst ((SIt ds j).map V.int))) ⟨same_new hD, upd_same⟩ (fun _ _ _ _ => trivial) (fun j v B B' hj hP hY => ?_) (fun B hP => ?_)
    · obtain ⟨sB, hB⟩ := hP
      obtain ⟨rfl, ey⟩ := hY
      have hz : j < (rowL ds).length := hj
      have hz2 : (rowL ds)[j]? = some (rowL ds)[j] := List.getElem?_eq_getElem hz
      have ev : v = V.int (j : Nat) := by rw [ey]; exact congrArg V.int (Int.zero_add _)
      subst ev
      have hz3 : ((rowL ds).map V.int)[j]? = some (.int (rowL ds)[j]) := by rw [List.getElem?_map, hz2]; rfl
      generalize (rowL ds)[j] = z at hz2 hz3
      have hr3 := sB _ _ hr
      have sl := SIt_len ds j
      refine ⟨rfl, _, rfl, _, rfl, r, _, _, _, rfl, rfl, SqL.of hr3, atI_nat hz3, rfl, _, rfl, ite2 (fun c => ?_) (fun c => ?_)⟩
      · have ez : z = 1 := by simpa using c
        refine ⟨_, rfl, _, hB, by rw [List.length_map]; exact small1000 (by omega), same_mut sB hD, ?_⟩
        rw [upd_same, SIt_succ hz2, if_pos ez, List.map_append]
        rfl
      · refine ⟨sB, ?_⟩
        have ez : ¬ z = 1 := by simpa using c
        rw [SIt_succ hz2, if_neg ez, List.append_nil]
        exact hB
    obtain ⟨sB, hB⟩ := hP
    rw [SIt_all] at hB
    have hrB := sB _ _ hr
    have bagB := bag1.keep sB
    have Db := Lm.bag_off bag1 hD
    have bB := (But.of (b := b) s1).trans (But.of sB)
    refine ⟨_, rfl, b, _, 4, rfl, by decide, by decide, bagB, by omega, fun B1 g g0 g1 bag2 but2 => ?_⟩
    have hD1 := but2.keep _ _ Db hB
    have rb := Lm.bag_off bag r0
    have hr1 := but2.keep _ _ rb hrB
    have b1 := bB.trans but2
    refine ⟨_, rfl, rfl, _, rfl, ite2 (fun c => ?_) (fun c => ?_)⟩
    · refine ⟨_, rfl, _, rfl, D, rfl, ⟨_, SqL.of hD1⟩, fun D2 hD2 => ?_⟩
      refine lc_it walk_list (fun j Y => Same B1 Y ∧ Y D2 = some (.lst ((((SI ds).take j).map fun o => len ds + o).map V.int))) ⟨same_new hD2, upd_same⟩ (fun j Y _ h => SqL.of (h.1 _ _ hD1)) (fun j v Y Y' hj hP hY => ?_) (fun Y hP => ?_)
      · obtain ⟨sY, hYL⟩ := hP
        obtain ⟨rfl, hv⟩ := hY
        rw [List.getElem?_map] at hv
        obtain ⟨z, hz, rfl⟩ := Option.map_eq_some_iff.mp hv
        refine ⟨rfl, yesT ?_⟩
        have tl : (((SI ds).take j).map fun o => len ds + o).length ≤ 24 := by rw [List.length_map, List.length_take]; omega
        refine ⟨_, rfl, r, _, rfl, .inl (SqL.of (sY _ _ hr1)), _, rfl, _, _, rfl, rfl, _, hYL, by rw [List.length_map]; exact small1000 (by omega), same_mut sY hD2, ?_⟩
        rw [upd_same, tk_succ hz, List.map_append, List.map_append, List.length_map]
        rfl
      obtain ⟨sY, hYL⟩ := hP
      rw [List.length_map, List.take_length] at hYL
      have hDY := sY _ _ hD1
      refine ⟨D, D2, _, _, rfl, rfl, hDY, hYL, by rw [List.length_map, List.length_map, List.length_map]; exact Nat.le_of_lt (small1000 (by omega)), fun v hv => ?_⟩
      have sv := same_new (o := .lst ((SI ds).map V.int ++ ((SI ds).map fun o => len ds + o).map V.int)) hv
      have hv1 : upd Y v (.lst ((SI ds).map V.int ++ ((SI ds).map fun o => len ds + o).map V.int)) v = some (.lst ((SI ds ++ (SI ds).map fun o => len ds + o).map V.int)) := by rw [upd_same, List.map_append]
      generalize upd Y v (.lst ((SI ds).map V.int ++ ((SI ds).map fun o => len ds + o).map V.int)) = Z at sv hv1 ⊢
      have sZ := sY.trans sv
      refine ⟨_, rfl, r, _, rfl, .inl (SqL.of (sZ _ _ hr1)), ?_⟩
      have l1 := len_le N
      unfold len at l1 l0
      refine ⟨_, _, rfl, rfl, .inl ⟨by first | omega | (rw [List.length_map]; omega), by first | omega | (rw [List.length_map]; omega)⟩, by show 2 ≤ sizeLine; decide, fun x hx => ?_⟩
      rw [List.length_map]
      have sx := same_new (o := .lst [.ref v, .int (2 * ((rowL ds).length : Nat))]) hx
      refine k _ x v _ (2 * (rowL ds).length) ?_ (sx _ _ hv1) (fun o m => ?_) ?_ (by omega) (by omega) ((bag2.keep (sZ.trans sx)).mono (by omega)) (b1.trans (But.of (sZ.trans sx)))
      · rw [upd_same]
        rfl
      · rcases List.mem_append.mp m with m | m
        · have := SI_lt m
          omega
        · obtain ⟨y, my, rfl⟩ := List.mem_map.mp m
          have := SI_lt my
          unfold len
          omega
      · rw [List.length_append, List.length_map]
        omega
    · refine ⟨fun σ A => ∃ xs : List Int, (∃ v4 v6, σ = [some (.ref b), some (.str (numS ds)), some (.ref r), some (.ref D), v4, some (.int g), v6]) ∧ A D = some (.lst (xs.map V.int)) ∧ (∀ x ∈ xs, 0 ≤ x ∧ x < len ds) ∧ xs.length ≤ 40 ∧ Bag A b (n + 12) ∧ But b H A ∧ A r = some (.lst ((rowL ds).map V.int)), ?_, ?_⟩
      · refine ⟨_, rfl, rfl, _, rfl, ite2 (fun c1 => ?_) (fun c1 => ?_)⟩
        · refine ⟨_, rfl, b, _, 9, rfl, by decide, by decide, bag2, by omega, fun B2 g' g2 g3 bag3 but3 => ?_⟩
          refine ⟨_, rfl, by omega, by omega, ?_⟩
          have hD3 := but3.keep _ _ Db hD1
          refine for_range (fun i σ A => ∃ xs : List Int, (∃ v4 v6, σ = [some (.ref b), some (.str (numS ds)), some (.ref r), some (.ref D), v4, some (.int g), v6]) ∧ A D = some (.lst (xs.map V.int)) ∧ (∀ x ∈ xs, 0 ≤ x ∧ x < len ds) ∧ xs.length ≤ 24 + i ∧ Bag A b (n + 2 + i) ∧ But b H A ∧ A r = some (.lst ((rowL ds).map V.int)))
            ⟨SI ds, ⟨none, none, rfl⟩, hD3, fun x m => ?_, by omega, bag3.mono (by omega), b1.trans but3, but3.keep _ _ rb hr1⟩ (fun i σ A hi hP => ?_) (fun σ A hP => ?_)
          · have := SI_lt m
            unfold len
            omega
          · obtain ⟨xs, ⟨v4, v6, rfl⟩, hL, hin, lx, bagA, bA, hrA⟩ := hP
            have l2 := len_le N
            have l3 := len_pos ds
            unfold len at l2 l3
            refine ⟨_, rfl, .inl ⟨rfl, _, SqL.of hL⟩, _, rfl, _, rfl, r, _, rfl, .inl (SqL.of hrA), b, _, _, rfl, by rw [List.length_map]; omega, by rw [List.length_map]; omega, bagA, by omega, fun A1 z z0 z1 bagB butB => ?_⟩
            have hLB := butB.keep _ _ Db hL
            refine ⟨D, _, _, rfl, rfl, hLB, small1000 (by rw [List.length_map]; omega), ?_⟩
            have fD := s1.free hD
            have bAB := bA.trans butB
            refine ⟨xs ++ [z], ⟨_, _, rfl⟩, by rw [upd_same, List.map_append]; rfl, fun x m => ?_, by rw [List.length_append]; show xs.length + 1 ≤ _; omega, (bag.put fD bAB bagB).mono (by omega), bAB.put fD, by rw [upd_ne (ne_of_none hr hD)]; exact butB.keep _ _ rb hrA⟩
            rcases List.mem_append.mp m with m | m
            · exact hin x m
            · rw [List.mem_singleton.mp m]
              rw [List.length_map] at z1
              unfold len
              exact ⟨z0, z1⟩
          · obtain ⟨xs, ⟨v4, v6, rfl⟩, hL, hin, lx, bagA, bA, hrA⟩ := hP
            exact ⟨xs, ⟨_, _, rfl⟩, hL, hin, by omega, bagA.mono (by omega), bA, hrA⟩
        · refine ⟨SI ds, ⟨_, _, rfl⟩, hD1, fun x m => ?_, by omega, bag2.mono (by omega), b1, hr1⟩
          have := SI_lt m
          unfold len
          omega
      · rintro σ A ⟨xs, ⟨v4, v6, rfl⟩, hL, hin, lx, bagA, bA, hrA⟩
        refine ⟨_, rfl, _, rfl, r, _, rfl, .inl (SqL.of hrA), by show 2 ≤ sizeLine; decide, fun x hx => ?_⟩
        have sx := same_new (o := .lst [.ref D, .int ((((rowL ds).map V.int).length : Nat) : Int)]) hx
        have l1 := len_le N
        unfold len at l1 l0 hin
        refine k _ x D xs (rowL ds).length (by rw [upd_same, List.length_map]) (sx _ _ hL) hin (by omega) (by omega) (by omega) (bagA.keep sx) (bA.trans (But.of sx))
end
end K15

namespace K15
open PySem L2 Wm TL Dv
section
variable {P : Program} {w : World} {K : PySem.W.Frag} {mg : Str → Option Value} {base : Heap}
theorem ifF {c : Bool} {R S : Prop} (h : c = false) (s : S) : if c = true then R else S := by rw [h]; exact iteF s
theorem ifT {c : Bool} {R S : Prop} (h : c = true) (s : R) : if c = true then R else S := by rw [h]; exact iteT s
theorem ten {d : Int} (h0 : 0 ≤ d) (h1 : d < 10) : d = 0 ∨ d = 1 ∨ d = 2 ∨ d = 3 ∨ d = 4 ∨ d = 5 ∨ d = 6 ∨ d = 7 ∨ d = 8 ∨ d = 9 := by omega
theorem fx4 {x1 x2 x3 x4 : V} (h1 : Sc x1) (h2 : Sc x2) (h3 : Sc x3) (h4 : Sc x4) : ∀ x ∈ [x1, x2, x3, x4], Sc x := by
  intro x m
  rcases List.mem_cons.mp m with rfl | m
  · exact h1
  rcases List.mem_cons.mp m with rfl | m
  · exact h2
  rcases List.mem_cons.mp m with rfl | m
  · exact h3
  rcases List.mem_cons.mp m with rfl | m
  · exact h4
  · cases m
theorem two_pow {i : Int} (h : i.natAbs < 2 ^ 100) {j : Int} (hj : (j - i).natAbs < 1000) : j.natAbs < 2 ^ 200 := by
  have : (2 : Nat) ^ 100 + 1000 < 2 ^ 200 := by decide
  omega
theorem menu5 {g : Int} (h0 : 0 ≤ g) (h1 : g < 5) : ∃ s : Str, atI [V.str "head", V.str "pull", V.str "train", V.str "tail", V.str "none"] g = some (.str s) ∧ Tx s := by
  obtain ⟨t1, t2, t3, t4⟩ := tx_kinds
  have c : g = 0 ∨ g = 1 ∨ g = 2 ∨ g = 3 ∨ g = 4 := by omega
  rcases c with z | z | z | z | z <;> subst z
  · exact ⟨_, rfl, t1⟩
  · exact ⟨_, rfl, t4⟩
  · exact ⟨_, rfl, t2⟩
  · exact ⟨_, rfl, t3⟩
  · exact ⟨_, rfl, ⟨by decide, by decide +kernel⟩⟩
theorem tx_one {ds : List Nat} (N : Num ds) : Tx (numS ds ++ "1") := by
  have h := tx_num N
  have e : tl (numS ds ++ "1") = tl (numS ds) ++ tl ("1" : Str) := by
    show (numS ds ++ ("1" : Str)).cps.toList = _
    exact Array.toList_append ..
  refine ⟨?_, fun c m => ?_⟩
  · have := N.len
    have z : (numS ds).length = ds.length := numS_len ds
    have e2 : (numS ds ++ ("1" : Str)).length = (numS ds).length + 1 := by
      show (numS ds ++ ("1" : Str)).cps.size = _
      exact Array.size_append ..
    omega
  · rw [e] at m
    rcases List.mem_append.mp m with m | m
    · exact h.asc c m
    · exact (by decide +kernel : ∀ c ∈ tl ("1" : Str), c < 128) c m
theorem menu4 {ds : List Nat} (N : Num ds) {g : Int} (h0 : 0 ≤ g) (h1 : g < 4) : ∃ x : V, atI [V.str "", V.str "x", V.str (numS ds ++ "1"), V.non] g = some x ∧ Sc x := by
  have c : g = 0 ∨ g = 1 ∨ g = 2 ∨ g = 3 := by omega
  rcases c with z | z | z | z <;> subst z
  · exact ⟨_, rfl, .str ⟨by decide, by decide +kernel⟩⟩
  · exact ⟨_, rfl, .str ⟨by decide, by decide +kernel⟩⟩
  · exact ⟨_, rfl, .str (tx_one N)⟩
  · exact ⟨_, rfl, .non⟩
theorem ok_bent (T : Txt K mg) : FnOk P w K mg base CX0 2 T.a_bent T.d_bent ["_law_bag_here", "_law_facts"] (sp_bent K) := by
  refine T.F_bent.ok sc_bent (fun vs H Q E h => ?_) (fun cdv A outer s H vs Q E hr h => ?_)
  · obtain ⟨b, t, n, ds, k, a, i, rfl, _⟩ := h
    rfl
  · obtain ⟨b, t, n, ds, kd, a, i, rfl, bag, hn, ht, N, tk, ha, hi, k⟩ := h
    refine ⟨_, (pss_cons (ps_set (i := 2) sc_bent.nd rfl (Or.inl rfl) (pe_call (ok_draw T) (hr.mono (by decide)) (by rfl) T.g_draw T.F_draw.kp T.b_draw .nil pass0 (pa_cons (pv 0) (pa_cons pe_int pa_nil))))
      (pss_cons (ps_asg (pv 1) (pg_tup rfl (pgs_cons (pg_name (i := 3) sc_bent.nd rfl (Or.inl rfl)) (pgs_cons (pg_name (i := 4) sc_bent.nd rfl (Or.inl rfl)) (pgs_cons (pg_name (i := 5) sc_bent.nd rfl (Or.inl rfl)) (pgs_cons (pg_name (i := 6) sc_bent.nd rfl (Or.inl rfl)) pgs_nil))))))
      (pss_cons (ps_if (pt_cmpR op_eq (pv 2) pe_int (nomark _))
        (pss_one (ps_ret (pe_tup (pa_cons (pv 3) (pa_cons (pv 4) (pa_cons (pe_op op_sub (pe_op op_add (pv 5) pe_int) (pe_op op_mul pe_int (pe_call (ok_draw T) (hr.mono (by decide)) (by rfl) T.g_draw T.F_draw.kp T.b_draw .nil pass0 (pa_cons (pv 0) (pa_cons pe_int pa_nil))))) (pa_cons (pv 6) pa_nil)))))))
        pss_nil)
      (pss_cons (ps_if (pt_cmpR op_eq (pv 2) pe_int (nomark _))
        (pss_one (ps_ret (pe_tup (pa_cons (pv 3) (pa_cons (pv 4) (pa_cons (pv 5) (pa_cons (pe_op op_sub (pe_op op_add (pv 6) pe_int) (pe_op op_mul pe_int (pe_call (ok_draw T) (hr.mono (by decide)) (by rfl) T.g_draw T.F_draw.kp T.b_draw .nil pass0 (pa_cons (pv 0) (pa_cons pe_int pa_nil))))) pa_nil)))))))
        pss_nil)
      (pss_cons (ps_if (pt_cmpR op_eq (pv 2) pe_int (nomark _))
        (pss_one (ps_ret (pe_tup (pa_cons (pv 3) (pa_cons (pe_ix ix_list (pe_lst (pa_cons pe_str (pa_cons pe_str (pa_cons pe_str (pa_cons pe_str (pa_cons pe_str pa_nil)))))) (pe_call (ok_draw T) (hr.mono (by decide)) (by rfl) T.g_draw T.F_draw.kp T.b_draw .nil pass0 (pa_cons (pv 0) (pa_cons pe_int pa_nil))) (fun _ _ => rfl)) (pa_cons (pv 5) (pa_cons (pv 6) pa_nil)))))))
        pss_nil)
      (pss_cons (ps_if (pt_cmpR op_eq (pv 2) pe_int (nomark _))
        (pss_one (ps_ret (pe_tup (pa_cons (pe_ix ix_list (pe_lst (pa_cons pe_str (pa_cons pe_str (pa_cons (pe_op op_add_str (pv 3) pe_str) (pa_cons pe_non pa_nil))))) (pe_call (ok_draw T) (hr.mono (by decide)) (by rfl) T.g_draw T.F_draw.kp T.b_draw .nil pass0 (pa_cons (pv 0) (pa_cons pe_int pa_nil))) (fun _ _ => rfl)) (pa_cons (pv 4) (pa_cons (pv 5) (pa_cons (pv 6) pa_nil)))))))
        pss_nil)
      (pss_cons (ps_if (pt_cmpR op_eq (pv 2) pe_int (nomark _))
        (pss_one (ps_ret (pe_lst (pa_cons (pv 3) (pa_cons (pv 4) (pa_cons (pv 5) (pa_cons (pv 6) pa_nil)))))))
        pss_nil)
      (pss_cons (ps_if (pt_cmpR op_eq (pv 2) pe_int (nomark _))
        (pss_one (ps_ret (pe_tup (pa_cons (pv 3) (pa_cons (pv 4) (pa_cons (pv 5) (pa_cons pe_bl pa_nil)))))))
        pss_nil)
      (pss_cons (ps_if (pt_cmpR op_eq (pv 2) pe_int (nomark _))
        (pss_one (ps_ret (pe_tup (pa_cons (pv 3) (pa_cons (pv 4) (pa_cons pe_bl (pa_cons (pv 6) pa_nil)))))))
        pss_nil)
      (pss_cons (ps_if (pt_cmpR op_eq (pv 2) pe_int (nomark _))
        (pss_one (ps_ret (pe_ix ix_list (pe_lst (pa_cons (pe_tup (pa_cons (pv 3) (pa_cons (pv 4) (pa_cons (pv 5) pa_nil)))) (pa_cons (pe_tup (pa_cons (pv 3) (pa_cons (pv 4) (pa_cons (pv 5) (pa_cons (pv 6) (pa_cons pe_int pa_nil)))))) (pa_cons (pe_tup pa_nil) (pa_cons pe_non (pa_cons (pv 3) (pa_cons pe_int pa_nil))))))) (pe_call (ok_draw T) (hr.mono (by decide)) (by rfl) T.g_draw T.F_draw.kp T.b_draw .nil pass0 (pa_cons (pv 0) (pa_cons pe_int pa_nil))) (fun _ _ => rfl))))
        pss_nil)
      (pss_cons (ps_if (pt_cmpR op_eq (pv 2) pe_int (nomark _))
        (pss_one (ps_ret (pe_tup (pa_cons (pv 3) (pa_cons (pv 4) (pa_cons (pe_op op_sub (pe_call (ok_draw T) (hr.mono (by decide)) (by rfl) T.g_draw T.F_draw.kp T.b_draw .nil pass0 (pa_cons (pv 0) (pa_cons pe_int pa_nil))) pe_int) (pa_cons (pe_op op_add pe_int (pe_call (ok_draw T) (hr.mono (by decide)) (by rfl) T.g_draw T.F_draw.kp T.b_draw .nil pass0 (pa_cons (pv 0) (pa_cons pe_int pa_nil)))) pa_nil)))))))
        pss_nil)
      (pss_one (ps_ret (pe_tup (pa_cons (pv 3) (pa_cons (pv 4) (pa_cons (pe_call (ok_draw T) (hr.mono (by decide)) (by rfl) T.g_draw T.F_draw.kp T.b_draw .nil pass0 (pa_cons (pv 0) (pa_cons (pe_op op_pow pe_int pe_int) pa_nil))) (pa_cons (pv 6) pa_nil)))))))))))))))))), ?_⟩
    have tb := bag_tup bag ht
    refine ⟨_, rfl, b, _, 10, rfl, by decide, by decide, bag, by omega, fun H1 d d0 d1 bag1 but1 => ?_⟩
    have ht1 := but1.keep _ _ tb ht
    refine ⟨_, rfl, t, _, rfl, SqT.of ht1, rfl, _, _, rfl, _, _, rfl, _, _, rfl, _, _, rfl, rfl, ?_⟩
    have sN : Sc (.str (numS ds)) := .str (tx_num N)
    have sK : Sc (.str kd) := .str tk
    have sA : Sc (.int a) := .int _ (two_pow ha (j := a) (by simp))
    have sI : Sc (.int i) := .int _ (two_pow hi (j := i) (by simp))
    have fin : ∀ (H' : Hp) (xs : List V), (∀ x ∈ xs, Sc x) → xs.length ≤ 6 → ∀ n', n' ≤ n + 3 → Bag H' b n' → But b H H' → ∀ u, H' u = none → Q (.ref u) (upd H' u (.tup xs)) := fun H' xs hs hl n' hn' bg bt u hu =>
      k _ _ (.tup xs) ⟨u, rfl, SqT.of upd_same⟩ ⟨hs, hl⟩ ((bg.keep (same_new hu)).mono hn') (bt.trans (But.of (same_new hu)))
    rcases ten d0 d1 with rfl | rfl | rfl | rfl | rfl | rfl | rfl | rfl | rfl | rfl
    · refine ⟨_, rfl, rfl, _, rfl, ifT (by decide +kernel) ?_⟩
      refine ⟨_, rfl, _, rfl, _, rfl, _, _, rfl, rfl, _, rfl, b, _, 2, rfl, by decide, by decide, bag1, by omega, fun H2 g g0 g1 bag2 but2 => ?_⟩
      refine ⟨_, _, rfl, rfl, .inl ⟨by omega, by omega⟩, _, _, rfl, rfl, _, rfl, by show 4 ≤ sizeLine; decide, ?_⟩
      exact fin H2 _ (fx4 sN sK (.int _ (two_pow ha (by omega))) sI) (Nat.le_of_ble_eq_true rfl) _ (by omega) bag2 (but1.trans but2)
    · refine ⟨_, rfl, rfl, _, rfl, ifF (by decide +kernel) ?_⟩
      refine ⟨_, rfl, rfl, _, rfl, ifT (by decide +kernel) ?_⟩
      refine ⟨_, rfl, _, rfl, _, rfl, _, rfl, _, _, rfl, rfl, _, rfl, b, _, 2, rfl, by decide, by decide, bag1, by omega, fun H2 g g0 g1 bag2 but2 => ?_⟩
      refine ⟨_, _, rfl, rfl, .inl ⟨by omega, by omega⟩, _, _, rfl, rfl, by show 4 ≤ sizeLine; decide, ?_⟩
      exact fin H2 _ (fx4 sN sK sA (.int _ (two_pow hi (by omega)))) (Nat.le_of_ble_eq_true rfl) _ (by omega) bag2 (but1.trans but2)
    · refine ⟨_, rfl, rfl, _, rfl, ifF (by decide +kernel) ?_⟩
      refine ⟨_, rfl, rfl, _, rfl, ifF (by decide +kernel) ?_⟩
      refine ⟨_, rfl, rfl, _, rfl, ifT (by decide +kernel) ?_⟩
      refine ⟨_, rfl, by show 5 ≤ sizeLine; decide, fun u hu => ?_⟩
      have s2 := same_new (o := .lst [.str "head", .str "pull", .str "train", .str "tail", .str "none"]) hu
      have ub := Lm.bag_off bag1 hu
      refine ⟨_, rfl, b, _, 5, rfl, by decide, by decide, bag1.keep s2, by omega, fun H2 g g0 g1 bag2 but2 => ?_⟩
      have hu2 := but2.keep _ _ ub upd_same
      obtain ⟨x, hx, tx⟩ := menu5 g0 g1
      refine ⟨u, _, g, _, rfl, rfl, SqL.of hu2, hx, _, rfl, _, rfl, by show 4 ≤ sizeLine; decide, ?_⟩
      exact fin H2 _ (fx4 sN (.str tx) sA sI) (Nat.le_of_ble_eq_true rfl) _ (by omega) bag2 ((but1.trans (But.of s2)).trans but2)
    · refine ⟨_, rfl, rfl, _, rfl, ifF (by decide +kernel) ?_⟩
      refine ⟨_, rfl, rfl, _, rfl, ifF (by decide +kernel) ?_⟩
      refine ⟨_, rfl, rfl, _, rfl, ifF (by decide +kernel) ?_⟩
      refine ⟨_, rfl, rfl, _, rfl, ifT (by decide +kernel) ?_⟩
      refine ⟨_, rfl, _, _, rfl, rfl, ?_, by show 4 ≤ sizeLine; decide, fun u hu => ?_⟩
      · rw [numS_len]
        have := N.len
        exact Nat.le_trans (show ds.length + 1 ≤ 100 by omega) (by decide)
      have s2 := same_new (o := .lst [.str "", .str "x", .str (numS ds ++ "1"), .non]) hu
      have ub := Lm.bag_off bag1 hu
      refine ⟨_, rfl, b, _, 4, rfl, by decide, by decide, bag1.keep s2, by omega, fun H2 g g0 g1 bag2 but2 => ?_⟩
      have hu2 := but2.keep _ _ ub upd_same
      obtain ⟨x, hx, tx⟩ := menu4 N g0 g1
      refine ⟨u, _, g, _, rfl, rfl, SqL.of hu2, hx, _, rfl, _, rfl, _, rfl, by show 4 ≤ sizeLine; decide, ?_⟩
      exact fin H2 _ (fx4 tx sK sA sI) (Nat.le_of_ble_eq_true rfl) _ (by omega) bag2 ((but1.trans (But.of s2)).trans but2)
    · refine ⟨_, rfl, rfl, _, rfl, ifF (by decide +kernel) ?_⟩
      refine ⟨_, rfl, rfl, _, rfl, ifF (by decide +kernel) ?_⟩
      refine ⟨_, rfl, rfl, _, rfl, ifF (by decide +kernel) ?_⟩
      refine ⟨_, rfl, rfl, _, rfl, ifF (by decide +kernel) ?_⟩
      refine ⟨_, rfl, rfl, _, rfl, ifT (by decide +kernel) ?_⟩
      refine ⟨_, rfl, _, rfl, _, rfl, _, rfl, by show 4 ≤ sizeLine; decide, fun u hu => ?_⟩
      exact k _ _ (.lst _) ⟨u, rfl, upd_same⟩ ⟨fx4 sN sK sA sI, Nat.le_of_ble_eq_true rfl⟩ ((bag1.keep (same_new hu)).mono (by omega)) (but1.trans (But.of (same_new hu)))
    · refine ⟨_, rfl, rfl, _, rfl, ifF (by decide +kernel) ?_⟩
      refine ⟨_, rfl, rfl, _, rfl, ifF (by decide +kernel) ?_⟩
      refine ⟨_, rfl, rfl, _, rfl, ifF (by decide +kernel) ?_⟩
      refine ⟨_, rfl, rfl, _, rfl, ifF (by decide +kernel) ?_⟩
      refine ⟨_, rfl, rfl, _, rfl, ifF (by decide +kernel) ?_⟩
      refine ⟨_, rfl, rfl, _, rfl, ifT (by decide +kernel) ?_⟩
      refine ⟨_, rfl, _, rfl, _, rfl, by show 4 ≤ sizeLine; decide, ?_⟩
      exact fin H1 _ (fx4 sN sK sA (.bl true)) (Nat.le_of_ble_eq_true rfl) _ (by omega) bag1 but1
    · refine ⟨_, rfl, rfl, _, rfl, ifF (by decide +kernel) ?_⟩
      refine ⟨_, rfl, rfl, _, rfl, ifF (by decide +kernel) ?_⟩
      refine ⟨_, rfl, rfl, _, rfl, ifF (by decide +kernel) ?_⟩
      refine ⟨_, rfl, rfl, _, rfl, ifF (by decide +kernel) ?_⟩
      refine ⟨_, rfl, rfl, _, rfl, ifF (by decide +kernel) ?_⟩
      refine ⟨_, rfl, rfl, _, rfl, ifF (by decide +kernel) ?_⟩
      refine ⟨_, rfl, rfl, _, rfl, ifT (by decide +kernel) ?_⟩
      refine ⟨_, rfl, _, rfl, _, rfl, by show 4 ≤ sizeLine; decide, ?_⟩
      exact fin H1 _ (fx4 sN sK (.bl false) sI) (Nat.le_of_ble_eq_true rfl) _ (by omega) bag1 but1
    · refine ⟨_, rfl, rfl, _, rfl, ifF (by decide +kernel) ?_⟩
      refine ⟨_, rfl, rfl, _, rfl, ifF (by decide +kernel) ?_⟩
      refine ⟨_, rfl, rfl, _, rfl, ifF (by decide +kernel) ?_⟩
      refine ⟨_, rfl, rfl, _, rfl, ifF (by decide +kernel) ?_⟩
      refine ⟨_, rfl, rfl, _, rfl, ifF (by decide +kernel) ?_⟩
      refine ⟨_, rfl, rfl, _, rfl, ifF (by decide +kernel) ?_⟩
      refine ⟨_, rfl, rfl, _, rfl, ifF (by decide +kernel) ?_⟩
      refine ⟨_, rfl, rfl, _, rfl, ifT (by decide +kernel) ?_⟩
      refine ⟨_, rfl, _, rfl, _, rfl, by show 3 ≤ sizeLine; decide, fun u1 h1 => ?_⟩
      have s1 := same_new (o := .tup [.str (numS ds), .str kd, .int a]) h1
      have e1 : upd H1 u1 (.tup [.str (numS ds), .str kd, .int a]) u1 = some (.tup [.str (numS ds), .str kd, .int a]) := upd_same
      generalize upd H1 u1 (.tup [.str (numS ds), .str kd, .int a]) = A1 at s1 e1 ⊢
      refine ⟨_, rfl, _, rfl, _, rfl, _, rfl, by show 5 ≤ sizeLine; decide, fun u2 h2 => ?_⟩
      have s2 := same_new (o := .tup [.str (numS ds), .str kd, .int a, .int i, .int 0]) h2
      have e2 : upd A1 u2 (.tup [.str (numS ds), .str kd, .int a, .int i, .int 0]) u2 = some (.tup [.str (numS ds), .str kd, .int a, .int i, .int 0]) := upd_same
      generalize upd A1 u2 (.tup [.str (numS ds), .str kd, .int a, .int i, .int 0]) = A2 at s2 e2 ⊢
      refine ⟨by show 0 ≤ sizeLine; decide, fun u3 h3 => ?_⟩
      have s3 := same_new (o := .tup []) h3
      have e3 : upd A2 u3 (.tup []) u3 = some (.tup []) := upd_same
      generalize upd A2 u3 (.tup []) = A3 at s3 e3 ⊢
      refine ⟨_, rfl, by show 6 ≤ sizeLine; decide, fun u hu => ?_⟩
      have s4 := same_new (o := .lst [.ref u1, .ref u2, .ref u3, .non, .str (numS ds), .int 3]) hu
      have e4 : upd A3 u (.lst [.ref u1, .ref u2, .ref u3, .non, .str (numS ds), .int 3]) u = some (.lst [.ref u1, .ref u2, .ref u3, .non, .str (numS ds), .int 3]) := upd_same
      have s14 := ((s1.trans s2).trans s3).trans s4
      have bg := bag1.keep s14
      have ub := Lm.bag_off (bag1.keep ((s1.trans s2).trans s3)) hu
      generalize upd A3 u (.lst [.ref u1, .ref u2, .ref u3, .non, .str (numS ds), .int 3]) = A4 at s4 e4 s14 bg ⊢
      refine ⟨_, rfl, b, _, 6, rfl, by decide, by decide, bg, by omega, fun H2 g g0 g1 bag2 but2 => ?_⟩
      have hu2 := but2.keep _ _ ub e4
      have b12 := (but1.trans (But.of s14)).trans but2
      have tk : ∀ {p : Addr} {xs : List V}, A4 p = some (.tup xs) → H2 p = some (.tup xs) := fun h => but2.keep _ _ (bag_tup bg h) h
      have c : g = 0 ∨ g = 1 ∨ g = 2 ∨ g = 3 ∨ g = 4 ∨ g = 5 := by omega
      rcases c with z | z | z | z | z | z <;> subst z
      · exact ⟨u, _, 0, _, rfl, rfl, SqL.of hu2, rfl, k _ _ (.tup _) ⟨u1, rfl, SqT.of (tk (((s2.trans s3).trans s4) _ _ e1))⟩ ⟨fun x m => fx4 sN sK sA sI x (show x ∈ [V.str (numS ds), .str kd, .int a] ++ [V.int i] from List.mem_append_left _ m), Nat.le_of_ble_eq_true rfl⟩ (bag2.mono (by omega)) b12⟩
      · exact ⟨u, _, 1, _, rfl, rfl, SqL.of hu2, rfl, k _ _ (.tup _) ⟨u2, rfl, SqT.of (tk ((s3.trans s4) _ _ e2))⟩ ⟨fun x m => (List.mem_append.mp (show x ∈ [V.str (numS ds), .str kd, .int a, .int i] ++ [V.int 0] from m)).elim (fx4 sN sK sA sI x) (fun m => by rw [List.mem_singleton.mp m]; exact .int 0 (by decide)), Nat.le_of_ble_eq_true rfl⟩ (bag2.mono (by omega)) b12⟩
      · exact ⟨u, _, 2, _, rfl, rfl, SqL.of hu2, rfl, k _ _ (.tup []) ⟨u3, rfl, SqT.of (tk (s4 _ _ e3))⟩ ⟨fun x m => (by cases m), Nat.le_of_ble_eq_true rfl⟩ (bag2.mono (by omega)) b12⟩
      · exact ⟨u, _, 3, _, rfl, rfl, SqL.of hu2, rfl, k _ _ (.sc .non) rfl ⟨fun x m => by rw [List.mem_singleton.mp m]; exact .non, Nat.le_of_ble_eq_true rfl⟩ (bag2.mono (by omega)) b12⟩
      · exact ⟨u, _, 4, _, rfl, rfl, SqL.of hu2, rfl, k _ _ (.sc (.str (numS ds))) rfl ⟨fun x m => by rw [List.mem_singleton.mp m]; exact sN, Nat.le_of_ble_eq_true rfl⟩ (bag2.mono (by omega)) b12⟩
      · exact ⟨u, _, 5, _, rfl, rfl, SqL.of hu2, rfl, k _ _ (.sc (.int 3)) rfl ⟨fun x m => by rw [List.mem_singleton.mp m]; exact .int 3 (by decide), Nat.le_of_ble_eq_true rfl⟩ (bag2.mono (by omega)) b12⟩
    · refine ⟨_, rfl, rfl, _, rfl, ifF (by decide +kernel) ?_⟩
      refine ⟨_, rfl, rfl, _, rfl, ifF (by decide +kernel) ?_⟩
      refine ⟨_, rfl, rfl, _, rfl, ifF (by decide +kernel) ?_⟩
      refine ⟨_, rfl, rfl, _, rfl, ifF (by decide +kernel) ?_⟩
      refine ⟨_, rfl, rfl, _, rfl, ifF (by decide +kernel) ?_⟩
      refine ⟨_, rfl, rfl, _, rfl, ifF (by decide +kernel) ?_⟩
      refine ⟨_, rfl, rfl, _, rfl, ifF (by decide +kernel) ?_⟩
      refine ⟨_, rfl, rfl, _, rfl, ifF (by decide +kernel) ?_⟩
      refine ⟨_, rfl, rfl, _, rfl, ifT (by decide +kernel) ?_⟩
      refine ⟨_, rfl, _, rfl, _, rfl, b, _, 120, rfl, by decide, by decide, bag1, by omega, fun H2 g g0 g1 bag2 but2 => ?_⟩
      refine ⟨_, _, rfl, rfl, _, rfl, b, _, 8, rfl, by decide, by decide, bag2, by omega, fun H3 f f0 f1 bag3 but3 => ?_⟩
      refine ⟨_, _, rfl, rfl, by show 4 ≤ sizeLine; decide, ?_⟩
      exact fin H3 _ (fx4 sN sK (.int _ (Nat.lt_of_le_of_lt (show _ ≤ 200 by omega) (by decide))) (.int _ (Nat.lt_of_le_of_lt (show _ ≤ 200 by omega) (by decide)))) (Nat.le_of_ble_eq_true rfl) _ (by omega) bag3 ((but1.trans but2).trans but3)
    · refine ⟨_, rfl, rfl, _, rfl, ifF (by decide +kernel) ?_⟩
      refine ⟨_, rfl, rfl, _, rfl, ifF (by decide +kernel) ?_⟩
      refine ⟨_, rfl, rfl, _, rfl, ifF (by decide +kernel) ?_⟩
      refine ⟨_, rfl, rfl, _, rfl, ifF (by decide +kernel) ?_⟩
      refine ⟨_, rfl, rfl, _, rfl, ifF (by decide +kernel) ?_⟩
      refine ⟨_, rfl, rfl, _, rfl, ifF (by decide +kernel) ?_⟩
      refine ⟨_, rfl, rfl, _, rfl, ifF (by decide +kernel) ?_⟩
      refine ⟨_, rfl, rfl, _, rfl, ifF (by decide +kernel) ?_⟩
      refine ⟨_, rfl, rfl, _, rfl, ifF (by decide +kernel) ?_⟩
      refine ⟨_, rfl, _, rfl, _, rfl, _, _, rfl, rfl, ⟨by decide, by decide, by decide⟩, b, _, _, rfl, by decide, by decide, bag1, by omega, fun H2 g g0 g1 bag2 but2 => ?_⟩
      refine ⟨_, rfl, by show 4 ≤ sizeLine; decide, ?_⟩
      have g1 : g < 100000000000000000000 := Int.lt_of_lt_of_le g1 (by decide)
      exact fin H2 _ (fx4 sN sK (.int _ (Nat.lt_of_lt_of_le (show g.natAbs < 100000000000000000000 by omega) (by decide))) sI) (Nat.le_of_ble_eq_true rfl) _ (by omega) bag2 (but1.trans but2)
end
end K15

namespace K15
open PySem L2 Wm TL Dv
section
variable {P : Program} {w : World} {K : PySem.W.Frag} {mg : Str → Option Value} {base : Heap}
theorem int_short {i : Int} (h : i.natAbs < 2 ^ 200) : (PyData.shown (.int i)).length ≤ 64 := by
  have e := int_text_length_le10 (k := 63) (a := i) (by decide) (Nat.lt_of_lt_of_le h (by decide))
  show (Str.ofString (toString i)).length ≤ 64
  rw [ofString_length]; exact e
theorem sc_show {x : V} (h : Sc x) : (scD x).showable = true ∧ (scD x).hasDict = false ∧ (scD x).depth = 0 ∧ (scD x).leavesShort 64 = true ∧ (scD x).bulk ≤ 100 := by
  cases h with
  | non => exact ⟨rfl, rfl, rfl, rfl, Nat.zero_le _⟩
  | bl b => exact ⟨rfl, rfl, rfl, rfl, Nat.zero_le _⟩
  | int i h =>
    refine ⟨decide_eq_true ?_, rfl, rfl, decide_eq_true (int_short h), Nat.zero_le _⟩
    by_cases z : i = 0
    · subst z; decide
    · exact Nat.lt_of_lt_of_le ((Nat.log2_lt (by omega)).mpr h) (by decide)
  | str t =>
    refine ⟨rfl, rfl, rfl, List.all_eq_true.mpr fun c m => decide_eq_true ?_, t.len⟩
    have := t.asc c m
    exact Nat.lt_of_lt_of_le this (by decide)
theorem scs_show : ∀ {xs : List V}, (∀ x ∈ xs, Sc x) → PyData.showableAll (xs.map scD) = true ∧ PyData.hasDictAll (xs.map scD) = false ∧ PyData.depthAll (xs.map scD) = 0 ∧ PyData.leavesShortAll 64 (xs.map scD) = true ∧ PyData.bulkAll (xs.map scD) ≤ 101 * xs.length
  | [], _ => ⟨rfl, rfl, rfl, rfl, Nat.zero_le _⟩
  | x :: xs, h => by
    obtain ⟨a1, a2, a3, a4, a5⟩ := sc_show (h x List.mem_cons_self)
    obtain ⟨b1, b2, b3, b4, b5⟩ := scs_show (xs := xs) fun y m => h y (List.mem_cons_of_mem _ m)
    simp only [List.map_cons, PyData.showableAll, PyData.hasDictAll, PyData.depthAll, PyData.leavesShortAll, PyData.bulkAll, a1, a2, a3, a4, b1, b2, b3, b4, Bool.and_self, Bool.or_self, Nat.max_self, true_and, List.length_cons]
    omega
theorem fx_show {f : Fx} (o : f.Ok) : f.D.showable = true ∧ f.D.hasDict = false ∧ f.D.depth ≤ 60 ∧ f.D.shown.length ≤ sizeLine := by
  have fit : ∀ d : PyData, d.leavesShort 64 = true → d.bulk ≤ 1000 → d.shown.length ≤ sizeLine := fun d h1 h2 => by
    have := PyData.shown_le_bulk 64 (by decide) d h1
    exact Nat.le_trans (show _ ≤ 100000 by omega) (by decide)
  cases f with
  | tup xs =>
    have few : xs.length ≤ 6 := o.few
    obtain ⟨b1, b2, b3, b4, b5⟩ := scs_show (xs := xs) o.sc
    exact ⟨b1, b2, by simp only [Fx.D, PyData.depth, b3]; decide, fit _ (by simp only [Fx.D, PyData.leavesShort]; exact b4) (by simp only [Fx.D, PyData.bulk]; omega)⟩
  | lst xs =>
    have few : xs.length ≤ 6 := o.few
    obtain ⟨b1, b2, b3, b4, b5⟩ := scs_show (xs := xs) o.sc
    exact ⟨b1, b2, by simp only [Fx.D, PyData.depth, b3]; decide, fit _ (by simp only [Fx.D, PyData.leavesShort]; exact b4) (by simp only [Fx.D, PyData.bulk]; omega)⟩
  | sc x =>
    obtain ⟨b1, b2, b3, b4, b5⟩ := sc_show (o.sc x List.mem_cons_self)
    exact ⟨b1, b2, by show (scD x).depth ≤ 60; omega, fit _ b4 (by show (scD x).bulk ≤ 1000; omega)⟩
theorem fx_dp {H : Hp} {v : V} {f : Fx} (o : f.Ok) (h : FxAt K H v f) : Dp K H v f.D := by
  cases f with
  | tup xs => obtain ⟨p, rfl, q⟩ := h; exact .tup q (scs_dp o.sc)
  | lst xs => obtain ⟨p, rfl, q⟩ := h; exact .lst (SqL.of q) (scs_dp o.sc)
  | sc x =>
    obtain rfl : v = x := h
    exact sc_dp (o.sc v List.mem_cons_self)
theorem ok_tried (T : Txt K mg) : Rp.GOk P w K mg base CX0 13 T.a_tried T.d_tried ["_law_facts", "_law_strokes", "_law_span", "_law_boxes_here", "_law_most", "_law_case"] (sp_tried K T.C T.L) := by
  refine Rp.gok T.F_tried sc_tried (fun vs H Q E h => ?_) (fun cdv A outer s H vs Q E hg hr h => ?_)
  · obtain ⟨v, cv, p, b, bs, m, f, rfl, _⟩ := h
    rfl
  · obtain ⟨v, cv, p, b, bs, m, f, rfl, hf, fo, hW, mo, h⟩ := h
    refine ⟨_, (pss_cons (Ta.ps_try_ass (W := fun _ _ _ _ => False) rfl rfl sc_tried.nd takes0 (fun U pn xe tk _ => (pss_one (ps_set (i := 6) sc_tried.nd rfl (Or.inl rfl) (pe_callS (ok_lay_of T) (hr.mono (by decide)) rfl T.g_lay_of T.F_lay_of.kp T.b_lay_of (fun σ => passAt tk σ) (by exact (pa_cons (pv 0) (pa_cons (pv 1) (pa_cons (pv 2) (pa_cons (pv 3) (pa_cons (pv 4) (pa_cons (pv 5) pa_nil))))))))))) (Ta.Hds.cons (h := ⟨Value.ref T.CZ, 7, _⟩) rfl rfl ⟨rfl, by decide, Or.inl T.lowZ.gC⟩ (fun a oe cls d pn hz hf => (St2.pss_two (ps_if (PW.pt (pw_or (pt_not (pt_val (pe_callB (Xe.call_isD T.xcZ T.cliZ hz hf) (by rfl) T.z_isinstance (by decide +kernel) (pa_cons (pv 7) (pa_cons (pe_glob (v := V.ref T.Wc) (by rfl) T.gWc rfl) pa_nil))))) (pw_or1 (pt_val (pe_callB (Xe.call_isD T.xcZ T.cliZ hz hf) (by rfl) T.z_isinstance (by decide +kernel) (pa_cons (pv 7) (pa_cons (pe_glob (v := V.ref T.CN) (by rfl) T.low.gC rfl) pa_nil))))))) (pss_one (ps_ret (pe_lst (pa_cons pe_str pa_nil)))) pss_nil) (ps_ret (pe_lst (pa_cons pe_str (pa_cons (pe_callB (show CallR _ _ (Rp.rRepr K) from Rp.call_reprD hg hr.units) (by rfl) T.z_repr (by decide +kernel) (pa_cons (pe_byLowZ T.lowZ hz hf (pv 7)) pa_nil)) pa_nil)))) rfl)) (Ta.Hds.cons (h := ⟨Value.ref T.CY, 7, _⟩) rfl rfl ⟨rfl, by decide, Or.inl T.lowY.gC⟩ (fun a oe cls d pn hz hf => (pss_one (ps_ret (pe_lst (pa_cons pe_str (pa_cons (pe_callB (show CallR _ _ (Rp.rRepr K) from Rp.call_reprD hg hr.units) (by rfl) T.z_repr (by decide +kernel) (pa_cons (pe_byLowY T.lowY hz hf (pv 7)) pa_nil)) (pa_cons (pe_callB (Xe.call_isD T.xcY T.cliY hz hf) (by rfl) T.z_isinstance (by decide +kernel) (pa_cons (pv 7) (pa_cons (pe_glob (v := V.ref T.Wc) (by rfl) T.gWc rfl) pa_nil))) pa_nil))))))) Ta.Hds.nil)))
      (pss_one (ps_ret (pe_lst (pa_cons pe_str (pa_cons (pv 6) pa_nil)))))), ?_⟩
    refine ⟨_, rfl, _, rfl, _, rfl, _, rfl, _, rfl, _, rfl, v, cv, p, b, bs, m, f, rfl, hf, fo, hW, mo, ?_⟩
    rcases h with ⟨c, rfl, k⟩ | ⟨d, hd, hs, hn, hz, k⟩
    · refine .inl ⟨c, rfl, fun y hy H1 u s1 hL => ?_, fun hno H1 dd s1 h1 => ?_⟩
      · refine ⟨_, rfl, by show 2 ≤ sizeLine; decide, fun r hr => ?_⟩
        have r0 : H r = none := by
          cases q : H r with
          | none => rfl
          | some o => rw [s1 _ _ q] at hr; cases hr
        exact (k _ r (s1.trans (same_new hr)) r0).1 y hy u upd_same (hL.k (same_new hr))
      · refine ⟨true, T.lowZ.te, fun _ a0 ha0 => ?_, fun z => Bool.noConfusion z⟩
        refine ⟨_, rfl, .ref T.Wc, .ref T.Wc, true, dd, _, rfl, rfl, rfl, h1, fun u h => h, T.kZW, true, rfl, iteF ?_⟩
        refine ⟨_, rfl, .ref T.CN, .ref T.CN, false, dd, _, rfl, rfl, rfl, h1, fun u h => h, T.kZN, false, rfl, iteF ?_⟩
        obtain ⟨w1, w2, w3, w4⟩ := fx_show fo
        refine ⟨_, rfl, rfl, rfl, dd, _, rfl, h1, v, f.D, rfl, fx_dp fo (hf.k s1), w1, w2, w3, w4, by show 2 ≤ sizeLine; decide, fun r hr => ?_⟩
        have r0 : H r = none := by
          cases q : H r with
          | none => rfl
          | some o => rw [s1 _ _ q] at hr; cases hr
        exact (k _ r (s1.trans (same_new hr)) r0).2 hno upd_same
    · refine .inr ⟨d, hd, fun H1 dd s1 h1 => ?_⟩
      refine ⟨false, T.eYZ, fun z => Bool.noConfusion z, fun _ => ⟨true, T.lowY.te, fun _ a0 ha0 => ?_, fun z => Bool.noConfusion z⟩⟩
      refine ⟨_, rfl, rfl, rfl, dd, _, rfl, h1, cv, d, rfl, (hd.k s1).1, hs, hn, hd.2.2.1, hz, ?_⟩
      refine ⟨_, rfl, .ref T.Wc, .ref T.Wc, true, dd, _, rfl, rfl, rfl, h1, fun u h => h, T.kYW, by show 3 ≤ sizeLine; decide, fun r hr => ?_⟩
      exact k _ r (s1.trans (same_new hr)) upd_same
theorem ok_listed (T : Txt K mg) : Rp.GOk P w K mg base CX0 14 T.a_listed T.d_listed ["_law_strokes", "_law_span", "_law_boxes_here", "_law_most", "_law_case"] (sp_listed K T.C T.L) := by
  refine Rp.gok T.F_listed sc_listed (fun vs H Q E h => ?_) (fun cdv A outer s H vs Q E hg hr h => ?_)
  · obtain ⟨p, b, bs, m, cv, rfl, _⟩ := h
    rfl
  · obtain ⟨p, b, bs, m, cv, rfl, hW, mo, h⟩ := h
    refine ⟨_, (pss_cons (Ta.ps_try_ass (W := fun _ _ _ _ => False) rfl rfl sc_listed.nd takes0 (fun U pn xe tk _ => (pss_one (ps_set (i := 5) sc_listed.nd rfl (Or.inl rfl) (pe_listG (pgen_call (E := _) (ok_lays T) (hr.mono (by decide)) (by rfl) T.g_lays T.F_lays.kp T.b_lays .nil (pa_cons (pv 0) (pa_cons (pv 1) (pa_cons (pv 2) (pa_cons (pv 3) (pa_cons (pv 4) pa_nil)))))) (St2.passLN 7 rfl tk) St2.noStop (hr.mono (by decide)) (by rfl) T.z_list (by decide +kernel))))) (Ta.Hds.cons (h := ⟨Value.ref T.CY, 6, _⟩) rfl rfl ⟨rfl, by decide, Or.inl T.lowY.gC⟩ (fun a oe cls d pn hz hf => (pss_one (ps_ret (pe_lst (pa_cons pe_str (pa_cons (pe_callB (show CallR _ _ (Rp.rRepr K) from Rp.call_reprD hg hr.units) (by rfl) T.z_repr (by decide +kernel) (pa_cons (pe_byLowY T.lowY hz hf (pv 6)) pa_nil)) (pa_cons (pe_callB (Xe.call_isD T.xcY T.cliY hz hf) (by rfl) T.z_isinstance (by decide +kernel) (pa_cons (pv 6) (pa_cons (pe_glob (v := V.ref T.Wc) (by rfl) T.gWc rfl) pa_nil))) pa_nil))))))) Ta.Hds.nil))
      (pss_one (ps_ret (pv 5)))), ?_⟩
    refine ⟨_, rfl, _, rfl, _, rfl, _, rfl, _, rfl, p, b, bs, m, cv, rfl, hW, mo, ?_⟩
    rcases h with ⟨c, rfl, k⟩ | ⟨d, hd, hs, hn, hz, k⟩
    · refine .inl ⟨c, rfl, fun H1 ys s1 hL r hr => ?_⟩
      have r0 : H r = none := by
        cases q : H r with
        | none => rfl
        | some o => rw [s1 _ _ q] at hr; cases hr
      exact ⟨_, rfl, k _ r ys (s1.trans (same_new hr)) r0 upd_same (hL.k (same_new hr))⟩
    · refine .inr ⟨d, hd, fun H1 dd s1 h1 => ⟨T.nsY, fun σ hσ => ?_⟩⟩
      refine ⟨true, T.lowY.te, fun _ a0 ha0 => ?_, fun z => Bool.noConfusion z⟩
      have e6 : (σ.set 6 (some (V.ref a0)))[6]? = some (some (V.ref a0)) := by rw [List.getElem?_set_self (by omega)]
      refine ⟨_, e6, rfl, rfl, dd, _, rfl, h1, cv, d, rfl, (hd.k s1).1, hs, hn, hd.2.2.1, hz, ?_⟩
      refine ⟨_, e6, .ref T.Wc, .ref T.Wc, true, dd, _, rfl, rfl, rfl, h1, fun u h => h, T.kYW, by show 3 ≤ sizeLine; decide, fun r hr => ?_⟩
      exact k _ r (s1.trans (same_new hr)) upd_same
end
end K15

namespace K15
open PySem L2 Wm TL Dv
section
variable {P : Program} {w : World} {K : PySem.W.Frag} {mg : Str → Option Value} {base : Heap}
theorem eqv_str {t : Str} {x : V} (h : Sc x) : PyData.eqv (.str t) (scD x) = decide (V.str t = x) := by
  cases h with
  | non => simp [scD, PyData.eqv]
  | bl b => simp [scD, PyData.eqv]
  | int i _ => simp [scD, PyData.eqv]
  | str _ => exact eqv_t _ _
theorem eqv_four {y : Ly} {x1 x2 x3 x4 : V} (o : LyOk y) (h1 : Sc x1) (h2 : Sc x2) (h3 : Sc x3) (h4 : Sc x4) (b3 : isB x3 = false) (b4 : isB x4 = false) :
    PyData.eqv (.tuple ((fvs y).map scD)) (.tuple ([x1, x2, x3, x4].map scD)) = isF (.tup [x1, x2, x3, x4]) y := by
  have sa : Sc (.int y.a) := .int _ (Nat.lt_of_lt_of_le o.a (Nat.pow_le_pow_right (by decide) (by decide)))
  have sn : Sc (.int (y.n : Nat)) := .int _ (Nat.lt_of_le_of_lt (show ((y.n : Nat) : Int).natAbs ≤ 8 by have := o.n; omega) (by decide))
  have e3 := eqv_sc sa h3 rfl b3
  have e4 := eqv_sc sn h4 rfl b4
  have e1 := eqv_str (t := numS y.ds) h1
  have e2 := eqv_str (t := y.kind) h2
  unfold fvs
  simp only [List.map_cons, List.map_nil, PyData.eqv, PyData.eqvAll]
  simp only [scD] at e1 e2 e3 e4 ⊢
  rw [e1, e2, e3, e4]
  unfold isF fvs
  by_cases c1 : V.str (numS y.ds) = x1
  · by_cases c2 : V.str y.kind = x2
    · by_cases c3 : V.int y.a = x3
      · by_cases c4 : V.int (y.n : Nat) = x4
        · subst c1 c2 c3 c4; simp
        · have : ¬ x4 = V.int (y.n : Nat) := fun z => c4 z.symm
          simp [c4, this]
      · have : ¬ x3 = V.int y.a := fun z => c3 z.symm
        simp [c3, this]
    · have : ¬ x2 = V.str y.kind := fun z => c2 z.symm
      simp [c2, this]
  · have : ¬ x1 = V.str (numS y.ds) := fun z => c1 z.symm
    simp [c1, this]
theorem find_no {f : Fx} (h : ∀ y, isF f y = false) (ys : List Ly) : ys.find? (isF f) = none := List.find?_eq_none.mpr fun y _ => by rw [h y]; decide
theorem isB_sc {H : Hp} {x : V} (h : Sc x) : ∃ tn, TyX K H x (.type tn) ∧ kitB tn "bool" = some (isB x) := by
  cases h with
  | non => exact ⟨_, .base .non, (by decide +kernel : kitB "NoneType" "bool" = some false)⟩
  | bl b => exact ⟨_, .base (.bl _), (by decide +kernel : kitB "bool" "bool" = some true)⟩
  | int i _ => exact ⟨_, .base (.int _), (by decide +kernel : kitB "int" "bool" = some false)⟩
  | str _ => exact ⟨_, .base (.str _), (by decide +kernel : kitB "str" "bool" = some false)⟩
theorem ok_known (T : Txt K mg) : FnOk P w K mg base CX0 2 T.a_known T.d_known ["_law_facts", "_law_told"] (sp_known K T.C T.L) := by
  refine T.F_known.ok sc_known (fun vs H Q E h => ?_) (fun cdv A outer s H vs Q E hr h => ?_)
  · obtain ⟨v, q, f, us, ys, rfl, _⟩ := h
    rfl
  · obtain ⟨v, q, f, us, ys, rfl, hf, fo, hq, hL, ok, k⟩ := h
    have none_of : (∀ y, isF f y = false) → Q .non H := fun h => (k H (Same.refl _)).2 (find_no h ys)
    refine ⟨_, (pss_cons (ps_if (PW.pt (pw_or (pt_not (pt_val (pe_callB call_isi (by rfl) T.z_isinstance (by decide +kernel) (pa_cons (pv 0) (pa_cons (pe_bltn (v := V.ty "tuple") (by rfl) T.z_tuple (by decide +kernel) rfl) pa_nil))))) (pw_or1 (pt_cmpR op_ne (pe_callB call_len_seq (by rfl) T.z_len PySem.boot_len (pa_cons (pv 0) pa_nil)) pe_int (nomark _)))))
        (pss_one (ps_ret pe_non))
        pss_nil)
      (pss_cons (ps_if (PW.pt (pw_or (pt_val (pe_callB call_isi (by rfl) T.z_isinstance (by decide +kernel) (pa_cons (pe_ix ix_tup (pv 0) pe_int (fun _ _ => rfl)) (pa_cons (pe_bltn (v := V.ty "bool") (by rfl) T.z_bool (by decide +kernel) rfl) pa_nil)))) (pw_or1 (pt_val (pe_callB call_isi (by rfl) T.z_isinstance (by decide +kernel) (pa_cons (pe_ix ix_tup (pv 0) pe_int (fun _ _ => rfl)) (pa_cons (pe_bltn (v := V.ty "bool") (by rfl) T.z_bool (by decide +kernel) rfl) pa_nil)))))))
        (pss_one (ps_ret pe_non))
        pss_nil)
      (pss_cons (ps_for PassesOwn.never rfl (pi_list (pv 1)) (pg_name (i := 2) sc_known.nd rfl (Or.inl rfl))
        (pss_one (ps_if (pt_cmpR (op_eqD hr.units) (pe_meth0 (pv 2) T.clL T.m_facts (ok_facts T) (hr.mono (by decide)) T.b_facts .nil pass0) (pv 0) (nomark _))
          (pss_one (ps_ret (pv 2)))
          pss_nil)))
      (pss_one (ps_ret pe_non))))), ?_⟩
    cases f with
    | lst xs =>
      obtain ⟨r, rfl, hr⟩ := hf
      refine ⟨_, rfl, _, _, _, _, false, rfl, .ty "tuple", .base (.lst hr), kit_ty (by decide +kernel), false, rfl, iteT ?_⟩
      exact iteT (none_of fun _ => rfl)
    | sc x =>
      obtain rfl : v = x := hf
      have sx : Sc v := fo.sc v List.mem_cons_self
      have kn : Q .non H := none_of fun _ => rfl
      clear k none_of
      cases sx with
      | non => exact ⟨_, rfl, _, _, _, _, false, rfl, .ty "tuple", .base .non, kit_ty (by decide +kernel), false, rfl, iteT (iteT kn)⟩
      | bl b => exact ⟨_, rfl, _, _, _, _, false, rfl, .ty "tuple", .base (.bl _), kit_ty (by decide +kernel), false, rfl, iteT (iteT kn)⟩
      | int i _ => exact ⟨_, rfl, _, _, _, _, false, rfl, .ty "tuple", .base (.int _), kit_ty (by decide +kernel), false, rfl, iteT (iteT kn)⟩
      | str _ => exact ⟨_, rfl, _, _, _, _, false, rfl, .ty "tuple", .base (.str _), kit_ty (by decide +kernel), false, rfl, iteT (iteT kn)⟩
    | tup xs =>
      obtain ⟨r, rfl, hr⟩ := hf
      have few : xs.length ≤ 6 := fo.few
      have scs : ∀ x ∈ xs, Sc x := fo.sc
      refine ⟨_, rfl, _, _, _, _, true, rfl, .ty "tuple", tup_ty hr, kit_ty (by decide +kernel), true, rfl, iteF ?_⟩
      refine ⟨_, rfl, _, _, rfl, .inr hr, rfl, _, rfl, ?_⟩
      by_cases l4 : xs.length = 4
      · refine ne_go (fun n => absurd (by rw [l4]; rfl) n) fun _ => ?_
        match xs, l4, scs, hr with
        | [x1, x2, x3, x4], _, scs, hr =>
        have s1 := scs x1 (by simp)
        have s2' := scs x2 (by simp)
        have s3 := scs x3 (by simp)
        have s4 := scs x4 (by simp)
        have no : isB x3 = true ∨ isB x4 = true → Q .non H := fun h => none_of fun y => decide_eq_false fun e => by
          unfold fvs at e
          simp only [List.cons.injEq] at e
          obtain ⟨_, _, e3, e4, _⟩ := e
          rcases h with h | h
          · rw [e3] at h; cases h
          · rw [e4] at h; cases h
        obtain ⟨t3, ty3, k3⟩ := isB_sc (K := K) (H := H) s3
        obtain ⟨t4, ty4, k4⟩ := isB_sc (K := K) (H := H) s4
        refine ⟨_, rfl, r, _, 2, _, rfl, rfl, hr, atI_nat (j := 2) rfl, _, _, _, _, _, rfl, .ty "bool", ty3, kit_ty k3, _, rfl, ?_⟩
        cases b3 : isB x3 with
        | true => exact iteT (iteT (no (.inl b3)))
        | false =>
        refine iteF ⟨_, rfl, r, _, 3, _, rfl, rfl, hr, atI_nat (j := 3) rfl, _, _, _, _, _, rfl, .ty "bool", ty4, kit_ty k4, _, rfl, ?_⟩
        cases b4 : isB x4 with
        | true => exact iteT (no (.inr b4))
        | false =>
        refine iteF ?_
        refine ⟨_, rfl, q, rfl, ⟨_, SqL.of hq⟩, ?_⟩
        have lu := hL.len
        refine for_list (xs := us) (fun i σ A => Same H A ∧ (∃ v2, σ = [some (.ref r), some (.ref q), v2]) ∧ ∀ j < i, ∀ y, ys[j]? = some y → isF (.tup [x1, x2, x3, x4]) y = false) ⟨Same.refl _, ⟨none, rfl⟩, fun j hj => absurd hj (Nat.not_lt_zero j)⟩
          (fun i σ A _ h => SqL.of (h.1 _ _ hq)) (fun i u σ A hu hP => ?_) (fun σ A hP => ?_)
        · obtain ⟨sA, ⟨v2, rfl⟩, hno⟩ := hP
          obtain ⟨y, hy, hy2⟩ := (hL.k sA).at i u hu
          obtain ⟨lp, dx, fs, q2, rfl, hp, _, _, _, _, _, _, _, l8⟩ := id hy2
          have oy := ok y (List.mem_of_getElem? hy)
          refine ⟨_, rfl, lp, dx, fs, rfl, hp, l8 _ (by decide) (by decide) (by decide) (by decide) (by decide) (by decide), lp, y, rfl, hy2, fun H2 t s2 ht => ?_⟩
          refine ⟨_, rfl, .tuple ((fvs y).map scD), .tuple ([x1, x2, x3, x4].map scD), .tup (SqT.of ht) (scs_dp (fvs_sc oy)), .tup (sameT (sA.trans s2) hr) (scs_dp scs), (scs_fine (fvs_sc oy)).shaped (by decide), (scs_fine scs).shaped (by decide), _, rfl, ?_⟩
          rw [eqv_four oy s1 s2' s3 s4 b3 b4]
          cases hF : isF (.tup [x1, x2, x3, x4]) y with
          | true => exact iteT ⟨_, rfl, (k _ (sA.trans s2)).1 y (find_at hno hy hF) _ (hy2.k s2)⟩
          | false =>
            refine iteF ⟨sA.trans s2, ⟨_, rfl⟩, fun j hj z hz => ?_⟩
            by_cases e : j = i
            · rw [e, hy] at hz
              rw [← Option.some.inj hz]; exact hF
            · exact hno j (by omega) z hz
        · obtain ⟨sA, ⟨v2, rfl⟩, hno⟩ := hP
          rw [lu] at hno
          exact (k _ sA).2 (find_none hno)
      · exact ne_go (fun _ => none_of fun y => decide_eq_false fun e => l4 (by rw [e]; rfl)) fun e => absurd (Int.ofNat.inj (V.int.inj e)) l4
end
end K15

namespace K15
open PySem L2 Wm TL Dv
section
variable {P : Program} {w : World} {K : PySem.W.Frag} {mg : Str → Option Value} {base : Heap}
/-! no two lays of the same facts -/
def Df (y z : Ly) : Prop := ¬ (y.ds = z.ds ∧ y.kind = z.kind ∧ y.a = z.a ∧ y.n = z.n)
theorem lyL_of {ds : List Nat} {kind : Str} {ns : List Int} {e a : Int} {lo m : Nat} {y : Ly} (h : y ∈ lyL ds kind ns e a lo m) : y.ds = ds ∧ y.kind = kind ∧ y.a = a := by
  unfold lyL at h
  obtain ⟨k, _, rfl⟩ := List.mem_map.mp h
  exact ⟨rfl, rfl, rfl⟩
theorem lyL_df (ds : List Nat) (kind : Str) (ns : List Int) (e a : Int) (lo m : Nat) : (lyL ds kind ns e a lo m).Pairwise Df := by
  unfold lyL
  rw [List.pairwise_map]
  refine List.Pairwise.filter _ ?_
  exact (List.nodup_range' (step := 1)).imp fun h c => h c.2.2.2
theorem tailL_df (ds : List Nat) (ns : List Int) (e : Int) (n : Nat) : (tailL ds ns e n).Pairwise Df := by
  unfold tailL
  rw [List.pairwise_flatMap]
  refine ⟨fun a _ => lyL_df .., ?_⟩
  exact List.nodup_range.imp fun {a b} h y hy z hz c => h (by
    have h1 := (lyL_of hy).2.2
    have h2 := (lyL_of hz).2.2
    have h3 := c.2.2.1
    omega)
theorem pullL_df (ds : List Nat) {ns : List Int} (e : Int) (n : Nat) (O : Off ns) : (pullL ds ns e n).Pairwise Df := by
  unfold pullL
  rw [List.pairwise_flatMap]
  refine ⟨fun a _ => lyL_df .., ?_⟩
  exact (cutL_off (e := e) O).up.imp fun {a b} h y hy z hz c => by
    have h1 := (lyL_of hy).2.2
    have h2 := (lyL_of hz).2.2
    have h3 := c.2.2.1
    omega
theorem tailL_of {ds : List Nat} {ns : List Int} {e : Int} {n : Nat} {y : Ly} (h : y ∈ tailL ds ns e n) : y.ds = ds ∧ y.kind = "tail" := by
  unfold tailL at h
  obtain ⟨t, _, h⟩ := List.mem_flatMap.mp h
  exact ⟨(lyL_of h).1, (lyL_of h).2.1⟩
theorem preL_of {ds : List Nat} {ns : List Int} {e : Int} {n : Nat} {c : Ca} {y : Ly} (h : y ∈ preL ds ns e n c) : y.ds = ds ∧ (y.kind = "train" ∨ y.kind = "tail") := by
  cases c with
  | quiet => cases h
  | train => exact ⟨(lyL_of h).1, .inl (lyL_of h).2.1⟩
  | key =>
    rcases List.mem_append.mp h with h | h
    · exact ⟨(lyL_of h).1, .inl (lyL_of h).2.1⟩
    · exact ⟨(tailL_of h).1, .inr (tailL_of h).2⟩
theorem pullL_of {ds : List Nat} {ns : List Int} {e : Int} {n : Nat} {y : Ly} (h : y ∈ pullL ds ns e n) : y.ds = ds ∧ y.kind = "pull" := by
  unfold pullL at h
  obtain ⟨t, _, h⟩ := List.mem_flatMap.mp h
  exact ⟨(lyL_of h).1, (lyL_of h).2.1⟩
theorem preL_df (ds : List Nat) (ns : List Int) (e : Int) (n : Nat) (c : Ca) : (preL ds ns e n c).Pairwise Df := by
  cases c with
  | quiet => exact .nil
  | train => exact lyL_df ..
  | key =>
    refine List.pairwise_append.mpr ⟨lyL_df .., tailL_df .., fun y hy z hz c => ?_⟩
    have h1 := (lyL_of hy).2.1
    have h2 := (tailL_of hz).2
    have h3 := c.2.1
    rw [h1, h2] at h3
    exact absurd h3 (by decide)
theorem boxL_of {ns : List Int} {e : Int} {n : Nat} {c : Ca} {x : Bo} {y : Ly} (h : y ∈ boxL ns e n c x) : y.ds = x.1 := by
  unfold boxL at h
  split at h
  · rcases List.mem_append.mp h with h | h
    · exact (preL_of h).1
    · exact (pullL_of h).1
  · cases c with
    | quiet =>
      have h : y ∈ (if headL x.1 ns = [] then [] else [(⟨x.1, "head", 0, 1, headL x.1 ns, e⟩ : Ly)]) := h
      split at h
      · cases h
      · rw [List.mem_singleton.mp h]
    | train => cases h
    | key => cases h
theorem boxL_df {ns : List Int} (O : Off ns) (e : Int) (n : Nat) (c : Ca) (x : Bo) : (boxL ns e n c x).Pairwise Df := by
  unfold boxL
  split
  · refine List.pairwise_append.mpr ⟨preL_df .., pullL_df _ _ _ O, fun y hy z hz c => ?_⟩
    have h1 := (preL_of hy).2
    have h2 := (pullL_of hz).2
    have h3 := c.2.1
    rcases h1 with h1 | h1 <;> rw [h1, h2] at h3 <;> exact absurd h3 (by decide)
  · cases c with
    | quiet =>
      show (if headL x.1 ns = [] then [] else [(⟨x.1, "head", 0, 1, headL x.1 ns, e⟩ : Ly)]).Pairwise Df
      split
      · exact .nil
      · exact List.pairwise_singleton _ _
    | train => exact .nil
    | key => exact .nil
theorem Wl.Ok.df {m : Wl} (o : m.Ok) (hx : (m.xs.map (·.1)).Nodup) (c : Ca) : (m.L c).Pairwise Df := by
  unfold Wl.L laysL
  rw [List.pairwise_flatMap]
  refine ⟨fun x _ => boxL_df o.off .., ?_⟩
  exact (List.pairwise_map.mp hx).imp fun {a b} h y hy z hz c => h (by rw [← boxL_of hy, ← boxL_of hz, c.1])
theorem fvs_df {y z : Ly} (h : fvs y = fvs z) : ¬ Df y z := fun n => n (by
  unfold fvs at h
  simp only [List.cons.injEq, V.str.injEq, V.int.injEq] at h
  obtain ⟨h1, h2, h3, h4, _⟩ := h
  exact ⟨numS_inj h1, h2, h3, by omega⟩)
theorem df_inj : ∀ {L : List Ly}, L.Pairwise Df → ∀ y ∈ L, ∀ z ∈ L, fvs y = fvs z → y = z
  | [], _, y, hy, _, _, _ => by cases hy
  | x :: L, h, y, hy, z, hz, e => by
    obtain ⟨h1, h2⟩ := List.pairwise_cons.mp h
    rcases List.mem_cons.mp hy with ey | hy
    · rcases List.mem_cons.mp hz with ez | hz
      · rw [ey, ez]
      · rw [ey] at e
        exact absurd (h1 z hz) (fvs_df e)
    · rcases List.mem_cons.mp hz with ez | hz
      · rw [ez] at e
        exact absurd (h1 y hy) (fvs_df e.symm)
      · exact df_inj h2 y hy z hz e
theorem df_nodup {L : List Ly} (h : L.Pairwise Df) : L.Nodup := h.imp fun n e => n (by rw [e]; exact ⟨rfl, rfl, rfl, rfl⟩)
theorem laI_all (xs : List Bo) (ns : List Int) (e : Int) (n : Nat) (c : Ca) : laI xs ns e n c xs.length = laysL xs ns e n c := by
  unfold laI
  rw [List.take_length]
theorem Wl.Ok.len {m : Wl} (o : m.Ok) (c : Ca) : (m.L c).length ≤ 3800 := by
  have h := laI_len o.num (e := m.e) c o.few o.n8 m.xs.length (Nat.le_refl _)
  rw [laI_all] at h
  have := o.x4
  unfold Wl.L
  omega
end
end K15

namespace K15
open PySem L2 Wm TL Dv
section
variable {P : Program} {w : World} {K : PySem.W.Frag} {mg : Str → Option Value} {base : Heap}
@[irreducible] def rLi (K : PySem.W.Frag) (C : Addr) : List V → Hp → VK → Prop := Li.rListIt K C (fun vs H Q E => sp_iter K C (vs ++ []) H Q E) (fun vs H Q E => sp_len K C (vs ++ []) H Q E) E0 E0
theorem rLi_of {X : Cx} {C : Addr} (h : CallR X (.type "list") (Li.rListIt X.K C (fun vs H Q E => sp_iter X.K C (vs ++ []) H Q E) (fun vs H Q E => sp_len X.K C (vs ++ []) H Q E) E0 E0)) : CallR X (.type "list") (rLi X.K C) := by
  unfold rLi
  exact h
theorem StrAt.ex {C : Addr} {H : Hp} {p : Addr} {ns : List Int} (h : StrAt K C H p ns) : ∃ dx fs, H p = some (.ins C dx fs) ∧ ∀ m : Str, m ≠ "offsets" → fs.lookup m = none := let ⟨dx, fs, _, a, _, c, _⟩ := h; ⟨dx, fs, a, c⟩
/-- list(strokes) -/
theorem lst_it {C : Addr} {H : Hp} {p : Addr} {ns : List Int} {Q : VK} (sA : StrAt K C H p ns) (few : ns.length < 1000) (k : ∀ u, H u = none → Q (.ref u) (upd H u (.lst (ns.map V.int)))) :
    rLi K C [.ref p] H Q := by
  unfold rLi
  obtain ⟨dx, fs, t, hp, l1, l2, ht⟩ := id sA
  refine ⟨p, dx, fs, rfl, hp, fun u2 hu2 => ?_⟩
  have s2 := same_new (o := .lst []) hu2
  refine ⟨p, t, ns, rfl, ⟨dx, fs, s2 _ _ hp, l1, sameT s2 ht⟩, fun it hit young => ?_⟩
  have s3 := s2.trans (same_new (o := Li.TiO t it) hit)
  refine ⟨it, t, _, rfl, upd_same, young u2 _ upd_same, sameT s3 ht, by rw [List.length_map]; omega, same_new hit _ _ upd_same, s3 _ _ hp, ?_⟩
  refine ⟨p, ns, rfl, sA.keep s3, by omega, _, rfl, by omega, by omega, rfl, ?_⟩
  rw [ItX.dropH_upd hit, upd_upd]
  exact k u2 hu2
theorem eq_ints {H : Hp} {p q : Addr} {ns ms : List Int} {Q : VK} (hp : SqL K H p (ns.map V.int)) (hq : SqL K H q (ms.map V.int)) (k : Q (.bl (decide (ns = ms))) H) : rEqD K (.ref p) (.ref q) H Q := by
  have sh : ∀ xs : List Int, SeqAt.shaped (.list (xs.map PyData.int)) = true := fun xs => by
    have h : ∀ l : List Int, PyData.canLayAll0 (l.map PyData.int) = true ∧ PyData.depthAll (l.map PyData.int) = 0 := fun l => by
      induction l with
      | nil => exact ⟨rfl, rfl⟩
      | cons a l ih => simp [PyData.canLayAll0, PyData.depthAll, PyData.canLay0, PyData.depth, ih.1, ih.2]
    exact Fine.shaped (n := 1) ⟨by simp only [PyData.canLay0]; exact (h xs).1, by simp only [PyData.depth]; rw [(h xs).2]; decide⟩ (by decide)
  refine ⟨.list (ns.map PyData.int), .list (ms.map PyData.int), .lst hp (dp_int2 ns), .lst hq (dp_int2 ms), sh ns, sh ms, ?_⟩
  have e : PyData.eqv (.list (ns.map PyData.int)) (.list (ms.map PyData.int)) = decide (ns = ms) := by rw [PyData.eqv, eqvAll_ints]
  rw [e]
  exact k
theorem eq_facts {H : Hp} {p q : Addr} {y z : Ly} {Q : VK} (oy : LyOk y) (oz : LyOk z) (hp : SqT K H p (fvs y)) (hq : SqT K H q (fvs z)) (k : Q (.bl (decide (fvs y = fvs z))) H) : rEqD K (.ref p) (.ref q) H Q := by
  refine ⟨.tuple ((fvs y).map scD), .tuple ((fvs z).map scD), .tup hp (scs_dp (fvs_sc oy)), .tup hq (scs_dp (fvs_sc oz)), (scs_fine (fvs_sc oy)).shaped (by decide), (scs_fine (fvs_sc oz)).shaped (by decide), ?_⟩
  have e : PyData.eqv (.tuple ((fvs y).map scD)) (.tuple ((fvs z).map scD)) = decide (fvs y = fvs z) := by rw [PyData.eqv, eqvAll_sc (fvs_sc oy) (fvs_sc oz) fvs_nb fvs_nb]
  rw [e]
  exact k
theorem eq_lay {L C : Addr} (cl : Cls K L) (isi : SlX.SIsi K L) (sf : PySem.W.notFirst K L (.ref L) = true) {H : Hp} {p q : Addr} {y z : Ly} {Q : VK} (hp : LayAt K C L H (.ref p) y) (hq : LayAt K C L H (.ref q) z) (k : Q (.bl (decide (y = z))) H) :
    Ow.rCmp K L (fun vs H Q E => sp_leq K C L (vs ++ []) H Q E) E0 (.ref p) (.ref q) H Q := by
  obtain ⟨_, y1, f1, _, e1, i1, _⟩ := id hp
  cases e1
  obtain ⟨_, y2, f2, _, e2, i2, _⟩ := id hq
  cases e2
  exact ⟨p, y1, f1, _, rfl, i1, .base (.ins i2 cl isi.ca isi.cn isi.ct isi.cm), sf, p, q, y, rfl, hp, .inl ⟨z, hq, k⟩⟩
theorem cond_is {F : Bool → Hp → Prop} {c d : Bool} {H : Hp} (h : c = d) (k : F d H) : F c H := by rw [h]; exact k
theorem lay_all {y z : Ly} : y = z ↔ (fvs y = fvs z ∧ y.ns = z.ns ∧ y.e = z.e) := by
  constructor
  · rintro rfl; exact ⟨rfl, rfl, rfl⟩
  · rintro ⟨h, h5, h6⟩
    unfold fvs at h
    simp only [List.cons.injEq, V.str.injEq, V.int.injEq] at h
    obtain ⟨h1, h2, h3, h4, _⟩ := h
    exact ly_ne.mpr ⟨h1, h2, h3, by omega, h5, h6⟩
theorem LaysAt.take {C L : Addr} {H : Hp} {vs : List V} {ys : List Ly} (h : LaysAt K C L H vs ys) : ∀ n, LaysAt K C L H (vs.take n) (ys.take n) := by
  induction h with
  | nil => intro n; rw [List.take_nil, List.take_nil]; exact .nil
  | cons a _ ih =>
    intro n
    cases n with
    | zero => exact .nil
    | succ n => exact .cons a (ih n)
theorem cut_any (xs : List V) (hi : Option Int) : ∃ m, cutV xs none hi = xs.take m := ⟨HT.sIx xs.length xs.length hi - HT.sIx xs.length 0 none, by unfold cutV; rw [HT.sIx_none, List.drop_zero]⟩
theorem ok_twins (T : Txt K mg) : FnOk P w K mg base CX0 7 T.a_twins T.d_twins ["_law_told", "_law_other"] (sp_twins K T.C T.L) := by
  refine T.F_twins.ok sc_twins (fun vs H Q E h => ?_) (fun cdv A outer s H vs Q E hr h => ?_)
  · obtain ⟨p, q, us, ws, ys, zs, rfl, _⟩ := h
    rfl
  · obtain ⟨p, q, us, ws, ys, zs, rfl, hp, hq, hY, hZ, ok, lu, lw, k⟩ := h
    refine ⟨_, (pss_cons (ps_for PassesOwn.never rfl (pi_list (pe_slice sl_list (pv 0) po_none (po_some pe_int))) (pg_name (i := 2) sc_twins.nd rfl (Or.inl rfl))
        (pss_one (ps_for PassesOwn.never rfl (pi_list (pe_slice sl_list (pv 1) po_none (po_some pe_int))) (pg_name (i := 3) sc_twins.nd rfl (Or.inl rfl))
          (pss_cons (ps_if (pt_not (pt_val (pe_callB call_isi (by rfl) T.z_isinstance (by decide +kernel) (pa_cons (pv 3) (pa_cons (pe_glob (v := V.ref T.L) rfl T.gL rfl) pa_nil)))))
            (pss_one (ps_ret pe_bl))
            pss_nil)
          (C8.pss_cut (ps_set (i := 4) sc_twins.nd rfl (Or.inl rfl) (pe_and (pe_cmpR (op_eqD hr.units) (pe_meth0 (pv 2) T.clL T.m_facts (ok_facts T) (hr.mono (by decide)) T.b_facts .nil pass0) (pe_meth0 (pv 3) T.clL T.m_facts (ok_facts T) (hr.mono (by decide)) T.b_facts .nil pass0) (nomark _)) (pe_and (pe_cmpR (op_eqD hr.units) (pe_callTy (rLi_of (Li.call_listIt (EI := E0) (EL := E0) T.aIt T.iIt T.aLen T.iLen ((ok_iter T).raw T.b_iter .nil) ((ok_len T).raw T.b_len .nil) (by rfl) (hr.mono (by decide)))) (by rfl) T.z_list (by decide +kernel) (pa_cons (pe_fld (pv 2) rfl) pa_nil)) (pe_callTy (rLi_of (Li.call_listIt (EI := E0) (EL := E0) T.aIt T.iIt T.aLen T.iLen ((ok_iter T).raw T.b_iter .nil) ((ok_len T).raw T.b_len .nil) (by rfl) (hr.mono (by decide)))) (by rfl) T.z_list (by decide +kernel) (pa_cons (pe_fld (pv 3) rfl) pa_nil)) (nomark _)) (pe_one (pe_cmpR op_eq (pe_fld (pv 2) rfl) (pe_fld (pv 3) rfl) (nomark _))))))
          (pss_one (ps_if (PW.pt (pw_or (pt_not (pt_val (pe_call (ok_says T) (hr.mono (by decide)) (by rfl) T.g_says T.F_says.kp T.b_says .nil pass0 (pa_cons (pe_cmpR (Ow.op_cmp (op := .Eq) (fun _ _ => rfl) T.aLeq T.iLeq ((ok_leq T).raw T.b_leq .nil) (hr.mono (by decide)) pass0) (pv 2) (pv 3) (nomark _)) (pa_cons (pv 4) pa_nil))))) (pw_or1 (pt_not (pt_val (pe_call (ok_says T) (hr.mono (by decide)) (by rfl) T.g_says T.F_says.kp T.b_says .nil pass0 (pa_cons (pe_cmpR (Ow.op_cmp (op := .Eq) (fun _ _ => rfl) T.aLeq T.iLeq ((ok_leq T).raw T.b_leq .nil) (hr.mono (by decide)) pass0) (pv 3) (pv 2) (nomark _)) (pa_cons (pv 4) pa_nil))))))))
            (pss_one (ps_ret pe_bl))
            pss_nil)))))))
      (pss_one (ps_ret pe_bl))), ?_⟩
    refine ⟨_, rfl, 12, rfl, p, _, rfl, SqL.of hp, fun a1 ha1 => ?_⟩
    obtain ⟨m1, e1⟩ := cut_any us (some 12)
    rw [e1]
    have sp1 := same_new (o := .lst (us.take m1)) ha1
    have hY1 := (hY.take m1).k sp1
    have hp1 : upd H a1 (.lst (us.take m1)) a1 = some (.lst (us.take m1)) := upd_same
    generalize upd H a1 (.lst (us.take m1)) = A1 at sp1 hY1 hp1 ⊢
    refine ⟨a1, rfl, ⟨_, SqL.of hp1⟩, ?_⟩
    refine for_list (xs := us.take m1) (fun i σ A => Same A1 A ∧ ∃ v2 v3 v4, σ = [some (.ref p), some (.ref q), v2, v3, v4]) ⟨Same.refl _, none, none, none, rfl⟩ (fun i σ A _ h => SqL.of (h.1 _ _ hp1)) (fun i u σ A hu hP => ?_) (fun σ A hP => ?_)
    · obtain ⟨sA, v2, v3, v4, rfl⟩ := hP
      obtain ⟨y, hy, hL⟩ := (hY1.k sA).at i u hu
      have oy := ok y (List.mem_append_left _ (List.mem_of_mem_take (List.mem_of_getElem? hy)))
      have hq0 := (sp1.trans sA) _ _ hq
      refine ⟨_, rfl, 60, rfl, q, _, rfl, SqL.of hq0, fun a2 ha2 => ?_⟩
      obtain ⟨m2, e2⟩ := cut_any ws (some 60)
      rw [e2]
      have sp2 := same_new (o := .lst (ws.take m2)) ha2
      have hZ2 := (hZ.take m2).k ((sp1.trans sA).trans sp2)
      have hp2 : upd A a2 (.lst (ws.take m2)) a2 = some (.lst (ws.take m2)) := upd_same
      have hL2 := hL.k sp2
      generalize upd A a2 (.lst (ws.take m2)) = A2 at sp2 hZ2 hp2 hL2 ⊢
      refine ⟨a2, rfl, ⟨_, SqL.of hp2⟩, ?_⟩
      refine for_list (xs := ws.take m2) (fun j σ B => Same A2 B ∧ ∃ v3 v4, σ = [some (.ref p), some (.ref q), some u, v3, v4]) ⟨Same.refl _, _, _, rfl⟩ (fun j σ B _ h => SqL.of (h.1 _ _ hp2)) (fun j u2 σ B hu2 hP2 => ?_) (fun σ B hP2 => ?_)
      · obtain ⟨sB, v3, v4, rfl⟩ := hP2
        obtain ⟨z, hz, hM⟩ := (hZ2.k sB).at j u2 hu2
        have oz := ok z (List.mem_append_right _ (List.mem_of_mem_take (List.mem_of_getElem? hz)))
        have hL := hL2.k sB
        obtain ⟨lp, dx, fs, t, rfl, i1, l1, l2, l3, l4, l5, l6, l7, l8⟩ := id hL
        obtain ⟨lq, dx2, fs2, t2, rfl, i2, n1, n2, n3, n4, n5, n6, n7, n8⟩ := id hM
        refine ⟨_, rfl, _, _, _, _, true, rfl, .own T.L, .base (.ins i2 T.clL T.isiL.ca T.isiL.cn T.isiL.ct T.isiL.cm), T.kSL, true, rfl, iteF ?_⟩
        refine ⟨fun σ' B' => Same B B' ∧ σ' = [some (.ref p), some (.ref q), some (.ref lp), some (.ref lq), some (.bl (decide (y = z)))], ?_, ?_⟩
        · have kF : ∀ B', Same B B' → y ≠ z → (Same B B' ∧ ([some (.ref p), some (.ref q), some (.ref lp), some (.ref lq), some (.bl false)] : L2.St) = [some (.ref p), some (.ref q), some (.ref lp), some (.ref lq), some (.bl (decide (y = z)))]) := fun B' s n => ⟨s, by rw [decide_eq_false n]⟩
          refine ⟨_, rfl, lp, dx, fs, rfl, i1, l8 _ (by decide) (by decide) (by decide) (by decide) (by decide) (by decide), lp, y, rfl, hL, fun B1 f1 s1 h1 => ?_⟩
          refine ⟨_, rfl, lq, dx2, fs2, rfl, s1 _ _ i2, n8 _ (by decide) (by decide) (by decide) (by decide) (by decide) (by decide), lq, z, rfl, hM.k s1, fun B2 f2 s2 h2 => ?_⟩
          refine eq_facts oy.1 oz.1 (SqT.of (s2 _ _ h1)) (SqT.of h2) ⟨_, rfl, ?_⟩
          have s12 := s1.trans s2
          by_cases c1 : fvs y = fvs z
          · rw [decide_eq_true c1]
            refine iteT ?_
            refine ⟨_, rfl, lp, T.L, dx, fs, _, rfl, s12 _ _ i1, T.clL, T.nSt, l5, lst_it (l6.k s12) oy.2 fun g1 hg1 => ?_⟩
            have s3 := same_new (o := .lst (y.ns.map V.int)) hg1
            have e3 : upd B2 g1 (.lst (y.ns.map V.int)) g1 = some (.lst (y.ns.map V.int)) := upd_same
            generalize upd B2 g1 (.lst (y.ns.map V.int)) = B3 at s3 e3 ⊢
            have s13 := s12.trans s3
            refine ⟨_, rfl, lq, T.L, dx2, fs2, _, rfl, s13 _ _ i2, T.clL, T.nSt, n5, lst_it (n6.k s13) oz.2 fun g2 hg2 => ?_⟩
            have s4 := same_new (o := .lst (z.ns.map V.int)) hg2
            have e4 : upd B3 g2 (.lst (z.ns.map V.int)) g2 = some (.lst (z.ns.map V.int)) := upd_same
            generalize upd B3 g2 (.lst (z.ns.map V.int)) = B4 at s4 e4 ⊢
            have s14 := s13.trans s4
            refine eq_ints (SqL.of (s4 _ _ e3)) (SqL.of e4) ⟨_, rfl, ?_⟩
            by_cases c2 : y.ns = z.ns
            · rw [decide_eq_true c2]
              refine iteT ?_
              refine ⟨_, rfl, lp, T.L, dx, fs, _, rfl, s14 _ _ i1, T.clL, T.nE, l7, _, rfl, lq, T.L, dx2, fs2, _, rfl, s14 _ _ i2, T.clL, T.nE, n7, rfl, s14, ?_⟩
              have e : decide (y = z) = decide (V.int y.e = V.int z.e) := decide_eq_decide.mpr ⟨fun e => by rw [e], fun h => lay_all.mpr ⟨c1, c2, V.int.inj h⟩⟩
              rw [e]
              rfl
            · rw [decide_eq_false c2]
              exact iteF (kF _ s14 fun e => c2 (lay_all.mp e).2.1)
          · rw [decide_eq_false c1]
            exact iteF (kF _ s12 fun e => c1 (lay_all.mp e).1)
        · rintro σ' B' ⟨sB', rfl⟩
          have hL' := hL.k sB'
          have hM' := hM.k sB'
          refine ⟨_, rfl, _, rfl, eq_lay T.clL T.isiL T.sfL hL' hM' ⟨_, rfl, _, _, rfl, _, rfl, ?_⟩⟩
          rw [show decide (decide (y = z) = decide (y = z)) = true from by simp]
          refine iteF ?_
          refine ⟨_, rfl, _, rfl, eq_lay T.clL T.isiL T.sfL hM' hL' ⟨_, rfl, _, _, rfl, _, rfl, ?_⟩⟩
          rw [show decide (decide (z = y) = decide (y = z)) = true from by rw [show decide (z = y) = decide (y = z) from decide_eq_decide.mpr ⟨Eq.symm, Eq.symm⟩]; simp]
          exact iteF ⟨sB.trans sB', _, _, rfl⟩
      · obtain ⟨sB, v3, v4, rfl⟩ := hP2
        exact ⟨(sA.trans sp2).trans sB, _, _, _, rfl⟩
    · obtain ⟨sA, _⟩ := hP
      exact k _ (sp1.trans sA)
end
end K15

namespace K15
open PySem L2 Wm TL Dv
section
variable {P : Program} {w : World} {K : PySem.W.Frag} {mg : Str → Option Value} {base : Heap}
theorem rgc {i j c : Int} (c0 : 0 < c) (c1 : c ≤ 100) (i0 : 0 ≤ i) (i1 : i ≤ 5000) (j0 : 0 ≤ j) (j1 : j ≤ 5000) : ∃ m : Nat, RgC i j c m ∧ m ≤ 10000 ∧ ∀ t : Nat, t < m ↔ i + (t : Int) * c < j := by
  have ed : ∀ x : Int, 0 ≤ x → x ≤ 5000 → 0 ≤ x / c ∧ x / c ≤ 5000 ∧ c * (x / c) ≤ x := fun x h0 h1 => by
    refine ⟨Int.ediv_nonneg h0 (by omega), Int.le_trans (Int.ediv_le_self _ h0) h1, Int.mul_ediv_self_le (by omega)⟩
  have rs : Builtin.Range.rangeSize i j c = if i < j then (j - i - 1) / c + 1 else 0 := by
    unfold Builtin.Range.rangeSize
    rw [if_pos (show c > 0 from c0)]
  refine ⟨(Builtin.Range.rangeSize i j c).toNat, ⟨by omega, by omega, ?_, ?_⟩, ?_, fun t => ?_⟩
  · unfold Builtin.Range.small
    rw [rs]
    simp only [Builtin.Range.rangeFitsLong, Bool.and_eq_true, Bool.or_eq_true, decide_eq_true_eq, beq_iff_eq, show c > 0 from c0, if_true]
    by_cases q : i < j
    · obtain ⟨h1, h2, h3⟩ := ed (j - i - 1) (by omega) (by omega)
      rw [if_pos q]
      clear h3
      generalize (j - i - 1) / c = y at h1 h2 ⊢
      omega
    · rw [if_neg q]
      omega
  · rw [rs]
    by_cases q : i < j
    · obtain ⟨h1, h2, h3⟩ := ed (j - i - 1) (by omega) (by omega)
      rw [if_pos q]
      clear h3
      generalize (j - i - 1) / c = y at h1 h2 ⊢
      have : (((y + 1).toNat : Nat) : Int) = y + 1 := Int.toNat_of_nonneg (Int.le_trans h1 (Int.le_add_one (Int.le_refl _)))
      exact this.symm
    · rw [if_neg q]
      rfl
  · rw [rs]
    by_cases q : i < j
    · obtain ⟨h1, h2, h3⟩ := ed (j - i - 1) (by omega) (by omega)
      rw [if_pos q]
      clear h3
      generalize (j - i - 1) / c = y at h1 h2 ⊢
      omega
    · rw [if_neg q]
      decide
  · rw [rs]
    by_cases q : i < j
    · obtain ⟨h1, h2, h3⟩ := ed (j - i - 1) (by omega) (by omega)
      rw [if_pos q]
      have k : (t : Int) ≤ (j - i - 1) / c ↔ (t : Int) * c ≤ j - i - 1 := Int.le_ediv_iff_mul_le c0
      clear h3
      generalize (j - i - 1) / c = y at h1 h2 k ⊢
      constructor
      · intro h
        have := k.mp (by omega)
        omega
      · intro h
        have := k.mpr (by omega)
        omega
    · rw [if_neg q]
      have : 0 ≤ (t : Int) * c := Int.mul_nonneg (by omega) (by omega)
      constructor
      · intro h
        simp at h
      · intro h
        omega
theorem says_t {c d : Bool} (h : c = d) : decide (c = d) = true := by rw [h]; simp
theorem ne_lay {L C : Addr} {H : Hp} {p q : Addr} {y z : Ly} {Q : VK} (hp : LayAt K C L H (.ref p) y) (hq : LayAt K C L H (.ref q) z) (k : Q (.bl (!decide (y = z))) H) : On.rNe L (fun vs H Q E => sp_leq K C L (vs ++ []) H Q E) E0 (.ref p) (.ref q) H Q := by
  obtain ⟨_, y1, f1, _, e1, i1, _⟩ := id hp
  cases e1
  obtain ⟨_, y2, f2, _, e2, i2, _⟩ := id hq
  cases e2
  exact ⟨p, y1, f1, q, y2, f2, rfl, rfl, i1, i2, p, q, y, rfl, hp, .inl ⟨z, hq, _, rfl, k⟩⟩
theorem ne_str {C : Addr} {H : Hp} {p q : Addr} {ns ms : List Int} {Q : VK} (hp : StrAt K C H p ns) (hq : StrAt K C H q ms) (k : Q (.bl (!decide (ns = ms))) H) : On.rNe C (fun vs H Q E => sp_seq K C (vs ++ []) H Q E) E0 (.ref p) (.ref q) H Q := by
  obtain ⟨y1, f1, _, i1, _⟩ := id hp
  obtain ⟨y2, f2, _, i2, _⟩ := id hq
  exact ⟨p, y1, f1, q, y2, f2, rfl, rfl, i1, i2, p, q, ns, ms, rfl, hp, hq, _, rfl, k⟩
theorem fact_find {ys : List Ly} {y z : Ly} (inj : ∀ y ∈ ys, ∀ z ∈ ys, fvs y = fvs z → y = z) (hy : y ∈ ys) (h : ys.find? (isF (.tup (fvs y))) = some z) : z = y := by
  have h1 := List.find?_some h
  have h2 := List.mem_of_find?_eq_some h
  exact (inj y hy z h2 (of_decide_eq_true h1)).symm
theorem fact_none {ys : List Ly} {y : Ly} (hy : y ∈ ys) (h : ys.find? (isF (.tup (fvs y))) = none) : False := by
  have := List.find?_eq_none.mp h y hy
  exact this (decide_eq_true rfl)
theorem nodup_at {α : Type} {l : List α} (h : l.Nodup) {i j : Nat} {x y : α} (hi : l[i]? = some x) (hj : l[j]? = some y) : x = y ↔ i = j := by
  obtain ⟨h1, e1⟩ := List.getElem?_eq_some_iff.mp hi
  obtain ⟨h2, e2⟩ := List.getElem?_eq_some_iff.mp hj
  constructor
  · intro e
    rw [← e1, ← e2] at e
    exact (List.getElem_inj h).mp e
  · rintro rfl
    rw [← e1, ← e2]
theorem ok_wlays (T : Txt K mg) : Rp.GOk P w K mg base CX0 14 T.a_wlays T.d_wlays ["_law_told", "_law_strokes", "_law_span", "_law_boxes_here", "_law_most", "_law_case"] (sp_wlays K T.C T.L) := by
  refine Rp.gok T.F_wlays sc_wlays (fun vs H Q E h => ?_) (fun cdv A outer s H vs Q E hg hr h => ?_)
  · obtain ⟨q, p, b, bs, us, m, c, rfl, _⟩ := h
    rfl
  · obtain ⟨q, p, b, bs, us, m, c, rfl, hq, hY, hW, mo, nd, inj, ok, k⟩ := h
    refine ⟨_, (pss_cons (ps_for PassesOwn.never rfl (pi_range3 (by rfl) T.z_range (pa_cons pe_int (pa_cons (pe_callB call_len_seq (by rfl) T.z_len PySem.boot_len (pa_cons (pv 0) pa_nil)) (pa_cons (pe_op op_add pe_int (pe_op op_fdivN (pe_callB call_len_seq (by rfl) T.z_len PySem.boot_len (pa_cons (pv 0) pa_nil)) pe_int)) pa_nil)))) (pg_name (i := 6) sc_wlays.nd rfl (Or.inl rfl))
        (pss_cons (ps_set (i := 7) sc_wlays.nd rfl (Or.inl rfl) (pe_ix ix_list (pv 0) (pv 6) (fun _ _ => rfl)))
        (pss_cons (ps_set (i := 8) sc_wlays.nd rfl (Or.inl rfl) (Rp.pe_gcall (ok_tried T) hg (hr.mono (by decide)) (by rfl) T.g_tried T.F_tried.kp T.b_tried .nil pass0 (pa_cons (pe_meth0 (pv 7) T.clL T.m_facts (ok_facts T) (hr.mono (by decide)) T.b_facts .nil pass0) (pa_cons (pv 1) (pa_cons (pv 2) (pa_cons (pv 3) (pa_cons (pv 4) (pa_cons (pv 5) pa_nil))))))))
        (pss_cons (ps_if (PW.pt (pw_or (pt_cmpR op_ne (pe_ix ix_list (pv 8) pe_int (fun _ _ => rfl)) pe_str (nomark _)) (pw_or (pt_not (pt_val (pe_callB call_isi (by rfl) T.z_isinstance (by decide +kernel) (pa_cons (pe_ix ix_list (pv 8) pe_int (fun _ _ => rfl)) (pa_cons (pe_glob (v := V.ref T.L) rfl T.gL rfl) pa_nil))))) (pw_or1 (pt_cmpR (On.op_ne T.neL ((ok_leq T).raw T.b_leq .nil) (hr.mono (by decide)) hr.units pass0) (pe_ix ix_list (pv 8) pe_int (fun _ _ => rfl)) (pv 7) (nomark _))))))
          (pss_one (ps_ret pe_bl))
          pss_nil)
        (pss_cons (ps_if (PW.pt (pw_or (pt_cmpR (On.op_ne T.neS ((ok_seq T).raw T.b_seq .nil) (hr.mono (by decide)) hr.units pass0) (pe_fld (pe_ix ix_list (pv 8) pe_int (fun _ _ => rfl)) rfl) (pe_fld (pv 7) rfl) (nomark _)) (pw_or1 (pt_cmpR op_ne (pe_fld (pe_ix ix_list (pv 8) pe_int (fun _ _ => rfl)) rfl) (pe_fld (pv 7) rfl) (nomark _)))))
          (pss_one (ps_ret pe_bl))
          pss_nil)
        (pss_cons (ps_for PassesOwn.never rfl (pi_range2 (by rfl) T.z_range (pa_cons (pe_callB (call_max2 rfl) (by rfl) T.z_max (by decide +kernel) (pa_cons pe_int (pa_cons (pe_op op_sub (pv 6) pe_int) pa_nil))) (pa_cons (pe_op op_add (pv 6) pe_int) pa_nil))) (pg_name (i := 9) sc_wlays.nd rfl (Or.inl rfl))
          (pss_cons (ps_if (pt_not (pt_val (pe_call (ok_says T) (hr.mono (by decide)) (by rfl) T.g_says T.F_says.kp T.b_says .nil pass0 (pa_cons (pe_cmpR (Ow.op_cmp (op := .Eq) (fun _ _ => rfl) T.aLeq T.iLeq ((ok_leq T).raw T.b_leq .nil) (hr.mono (by decide)) pass0) (pe_ix ix_list (pv 0) (pv 9) (fun _ _ => rfl)) (pv 7) (nomark _)) (pa_cons (pe_cmpR op_eq (pv 9) (pv 6) (nomark _)) pa_nil)))))
            (pss_one (ps_ret pe_bl))
            pss_nil)
          (pss_cons (ps_if (pt_not (pt_val (pe_call (ok_says T) (hr.mono (by decide)) (by rfl) T.g_says T.F_says.kp T.b_says .nil pass0 (pa_cons (pe_call (ok_clash T) (hr.mono (by decide)) (by rfl) T.g_clash T.F_clash.kp T.b_clash .nil pass0 (pa_cons (pe_ix ix_list (pv 0) (pv 9) (fun _ _ => rfl)) (pa_cons (pv 7) pa_nil))) (pa_cons (pe_call (ok_overlap T) (hr.mono (by decide)) (by rfl) T.g_overlap T.F_overlap.kp T.b_overlap .nil pass0 (pa_cons (pe_ix ix_list (pv 0) (pv 9) (fun _ _ => rfl)) (pa_cons (pv 7) pa_nil))) pa_nil)))))
            (pss_one (ps_ret pe_bl))
            pss_nil)
          (pss_one (ps_if (pt_not (pt_val (pe_call (ok_says T) (hr.mono (by decide)) (by rfl) T.g_says T.F_says.kp T.b_says .nil pass0 (pa_cons (pe_call (ok_clash T) (hr.mono (by decide)) (by rfl) T.g_clash T.F_clash.kp T.b_clash .nil pass0 (pa_cons (pv 7) (pa_cons (pe_ix ix_list (pv 0) (pv 9) (fun _ _ => rfl)) pa_nil))) (pa_cons (pe_call (ok_overlap T) (hr.mono (by decide)) (by rfl) T.g_overlap T.F_overlap.kp T.b_overlap .nil pass0 (pa_cons (pe_ix ix_list (pv 0) (pv 9) (fun _ _ => rfl)) (pa_cons (pv 7) pa_nil))) pa_nil)))))
            (pss_one (ps_ret pe_bl))
            pss_nil)))))
        (pss_one (ps_if (pt_cmpR (Ow.op_cmp (op := .Eq) (fun _ _ => rfl) T.aLeq T.iLeq ((ok_leq T).raw T.b_leq .nil) (hr.mono (by decide)) pass0) (pv 7) (pe_meth0 (pv 7) T.clL T.m_facts (ok_facts T) (hr.mono (by decide)) T.b_facts .nil pass0) (nomark _))
          (pss_one (ps_ret pe_bl))
          pss_nil))))))))
      (pss_one (ps_ret pe_bl))), ?_⟩
    have lu := hY.len
    have l38 := mo.len c
    refine ⟨_, rfl, _, _, rfl, .inl (SqL.of hq), _, rfl, _, _, rfl, .inl (SqL.of hq), _, _, rfl, rfl, ⟨by decide, by decide⟩, _, _, rfl, rfl, ?_⟩
    have hc0 : (0 : Int) ≤ ((us.length : Nat) : Int).fdiv 100 ∧ ((us.length : Nat) : Int).fdiv 100 ≤ 50 := by
      rw [Int.fdiv_eq_ediv_of_nonneg _ (by decide)]
      omega
    have hst : (1 : Int) ≤ 1 + ((us.length : Nat) : Int).fdiv 100 := by omega
    obtain ⟨mm, R, _, hm⟩ := rgc (i := 0) (j := ((us.length : Nat) : Int)) (c := 1 + ((us.length : Nat) : Int).fdiv 100) (by omega) (by omega) (by decide) (by decide) (by omega) (by omega)
    refine ⟨_, _, _, mm, rfl, R, ?_⟩
    refine for_rangeC (fun i σ A => Same H A ∧ ∃ v6 v7 v8 v9, σ = [some (.ref q), some (.ref p), some (.int m.e), some (.ref b), some (.int (m.n : Nat)), some (.str (caS c)), v6, v7, v8, v9]) ⟨Same.refl _, none, none, none, none, rfl⟩ (fun i σ A hi hP => ?_) (fun σ A hP => ?_)
    · obtain ⟨sA, v6, v7, v8, v9, rfl⟩ := hP
      have hlt := (hm i).mp hi
      have h0 : (0 : Int) ≤ 0 + ((i : Nat) : Int) * (1 + ((us.length : Nat) : Int).fdiv 100) := by
        have : (0 : Int) ≤ ((i : Nat) : Int) * (1 + ((us.length : Nat) : Int).fdiv 100) := Int.mul_nonneg (by omega) (by omega)
        omega
      generalize (0 : Int) + ((i : Nat) : Int) * (1 + ((us.length : Nat) : Int).fdiv 100) = kk at h0 hlt ⊢
      obtain ⟨j, rfl⟩ : ∃ j : Nat, kk = (j : Nat) := ⟨kk.toNat, by omega⟩
      have hjl : j < us.length := by omega
      have hu : us[j]? = some us[j] := List.getElem?_eq_getElem hjl
      obtain ⟨y, hy, hL0⟩ := hY.at j _ hu
      have my := List.mem_of_getElem? hy
      have oy := ok y my
      have hL := hL0.k sA
      refine ⟨_, rfl, _, rfl, q, _, _, _, rfl, rfl, SqL.of (sA _ _ hq), atI_nat (j := j) hu, ?_⟩
      generalize us[j] = uj at hu hL0 hL ⊢
      obtain ⟨lp, dx, fs, t, rfl, i1, l1, l2, l3, l4, l5, l6, l7, l8⟩ := id hL
      refine ⟨_, rfl, lp, dx, fs, rfl, i1, l8 _ (by decide) (by decide) (by decide) (by decide) (by decide) (by decide), lp, y, rfl, hL, fun A1 r1 s1 h1 => ?_⟩
      refine ⟨_, rfl, _, rfl, _, rfl, _, rfl, _, rfl, .ref r1, .str (caS c), p, b, bs, m, .tup (fvs y), rfl, ⟨r1, rfl, SqT.of h1⟩, ⟨fvs_sc oy, Nat.le_of_ble_eq_true rfl⟩, hW.k (sA.trans s1), mo, .inl ⟨c, rfl, fun A2 r s2 _ => ⟨fun z hz u hr hLz => ?_, fun hno => (fact_none my hno).elim⟩⟩⟩
      obtain rfl := fact_find inj my hz
      have sA2 := sA.trans (s1.trans s2)
      have hL2 := hL.k (s1.trans s2)
      obtain ⟨bp, dx2, fs2, t2, rfl, i2, n1, n2, n3, n4, n5, n6, n7, n8⟩ := id hLz
      have i12 := (s1.trans s2) _ _ i1
      refine ⟨_, rfl, r, _, 0, _, rfl, rfl, SqL.of hr, atI_nat (j := 0) rfl, rfl, _, rfl, ne_go (fun n => absurd rfl n) fun _ => ?_⟩
      refine ⟨_, rfl, r, _, 1, _, rfl, rfl, SqL.of hr, atI_nat (j := 1) rfl, _, _, _, _, true, rfl, .own T.L, .base (.ins i2 T.clL T.isiL.ca T.isiL.cn T.isiL.ct T.isiL.cm), T.kSL, true, rfl, iteF ?_⟩
      refine ⟨_, rfl, r, _, 1, _, rfl, rfl, SqL.of hr, atI_nat (j := 1) rfl, _, rfl, ne_lay hLz hL2 ⟨_, rfl, ?_⟩⟩
      rw [decide_eq_true rfl]
      refine iteF ?_
      have l62 := l6.k (s1.trans s2)
      refine ⟨_, rfl, r, _, 1, _, rfl, rfl, SqL.of hr, atI_nat (j := 1) rfl, bp, T.L, dx2, fs2, _, rfl, i2, T.clL, T.nSt, n5, _, rfl, lp, T.L, dx, fs, _, rfl, i12, T.clL, T.nSt, l5, ne_str n6 l62 ⟨_, rfl, ?_⟩⟩
      rw [decide_eq_true rfl]
      refine iteF ?_
      refine ⟨_, rfl, r, _, 1, _, rfl, rfl, SqL.of hr, atI_nat (j := 1) rfl, bp, T.L, dx2, fs2, _, rfl, i2, T.clL, T.nE, n7, _, rfl, lp, T.L, dx, fs, _, rfl, i12, T.clL, T.nE, l7, rfl, _, rfl, ne_go (fun n => absurd rfl n) fun _ => ?_⟩
      have hqA2 := sA2 _ _ hq
      have hY2 := hY.k sA2
      refine ⟨_, rfl, _, _, rfl, rfl, _, _, rfl, _, rfl, _, _, rfl, rfl, _, _, rfl, ⟨by split <;> omega, by split <;> omega, by omega, by omega⟩, ?_⟩
      obtain ⟨lo, hlo, hle⟩ : ∃ lo : Nat, (if ((j : Nat) : Int) - 6 > 0 then ((j : Nat) : Int) - 6 else 0) = (lo : Nat) ∧ lo ≤ j := ⟨j - 6, by split <;> omega, by omega⟩
      rw [hlo]
      refine for_range (fun i' σ B => Same A2 B ∧ ∃ v9, σ = [some (.ref q), some (.ref p), some (.int m.e), some (.ref b), some (.int (m.n : Nat)), some (.str (caS c)), some (.int (j : Nat)), some (.ref lp), some (.ref r), v9]) ⟨Same.refl _, _, rfl⟩ (fun i' σ B hi' hP' => ?_) (fun σ B hP' => ?_)
      · obtain ⟨sB, v9', rfl⟩ := hP'
        have hj' : lo + i' ≤ j := by omega
        have hu' : us[lo + i']? = some us[lo + i'] := List.getElem?_eq_getElem (by omega)
        obtain ⟨x, hx, hX0⟩ := hY2.at (lo + i') _ hu'
        have mx := List.mem_of_getElem? hx
        have ox := ok x mx
        have eI : ((lo : Nat) : Int) + ((i' : Nat) : Int) = ((lo + i' : Nat) : Int) := by omega
        rw [eI]
        have hX := hX0.k sB
        have hLB := hL2.k sB
        have hqB := sB _ _ hqA2
        generalize us[lo + i'] = ux at hu' hX0 hX
        obtain ⟨xp, dx3, fs3, t3, rfl, i3, x1, x2, x3, x4, x5, x6, x7, x8⟩ := id hX
        have eD : decide (x = z) = decide (V.int ((lo + i' : Nat) : Int) = V.int ((j : Nat) : Int)) := decide_eq_decide.mpr ⟨fun e => by rw [(nodup_at nd hx hy).mp e], fun e => (nodup_at nd hx hy).mpr (by have := V.int.inj e; omega)⟩
        have lx := ox.lt
        have ly := oy.lt
        refine ⟨_, rfl, _, rfl, q, _, _, _, rfl, rfl, SqL.of hqB, atI_nat (j := lo + i') hu', _, rfl, eq_lay T.clL T.isiL T.sfL hX hLB ⟨_, rfl, _, rfl, rfl, _, _, rfl, _, rfl, ?_⟩⟩
        rw [says_t eD]
        refine iteF ?_
        have hXt := atI_nat (j := lo + i') hu'
        have eC : decide (x.ds = z.ds ∧ x.a < z.e ∧ z.a < x.e) = decide (x.ds = z.ds ∧ (x.a < x.e ∧ x.a < z.e) ∧ z.a < x.e ∧ z.a < z.e) := decide_eq_decide.mpr ⟨fun ⟨h1, h2, h3⟩ => ⟨h1, ⟨lx, h2⟩, h3, ly⟩, fun ⟨h1, h2, h3⟩ => ⟨h1, h2.2, h3.1⟩⟩
        have eC2 : decide (z.ds = x.ds ∧ z.a < x.e ∧ x.a < z.e) = decide (x.ds = z.ds ∧ (x.a < x.e ∧ x.a < z.e) ∧ z.a < x.e ∧ z.a < z.e) := decide_eq_decide.mpr ⟨fun ⟨h1, h2, h3⟩ => ⟨h1.symm, ⟨lx, h3⟩, h2, ly⟩, fun ⟨h1, h2, h3⟩ => ⟨h1.symm, h3.1, h2.2⟩⟩
        refine ⟨_, rfl, _, rfl, q, _, _, _, rfl, rfl, SqL.of hqB, hXt, _, rfl, xp, lp, x, z, rfl, hX, hLB, _, rfl, _, rfl, q, _, _, _, rfl, rfl, SqL.of hqB, hXt, _, rfl, xp, lp, x, z, rfl, hX, hLB, _, _, rfl, _, rfl, ?_⟩
        rw [says_t eC]
        refine iteF ?_
        refine ⟨_, rfl, _, rfl, _, rfl, q, _, _, _, rfl, rfl, SqL.of hqB, hXt, lp, xp, z, x, rfl, hLB, hX, _, rfl, _, rfl, q, _, _, _, rfl, rfl, SqL.of hqB, hXt, _, rfl, xp, lp, x, z, rfl, hX, hLB, _, _, rfl, _, rfl, ?_⟩
        rw [says_t eC2]
        exact iteF ⟨sB, _, rfl⟩
      · obtain ⟨sB, v9', rfl⟩ := hP'
        have hLB := hL2.k sB
        refine ⟨_, rfl, _, rfl, lp, dx, fs, rfl, sB _ _ i12, l8 _ (by decide) (by decide) (by decide) (by decide) (by decide) (by decide), lp, z, rfl, hLB, fun B1 w s8 hw => ?_⟩
        refine ⟨lp, dx, fs, .type "tuple", rfl, (sB.trans s8) _ _ i12, .base (.tup hw), T.sfTL, lp, w, z, rfl, hLB.k s8, .inr ⟨_, hw, _, rfl, iteF ?_⟩⟩
        exact ⟨sA2.trans (sB.trans s8), _, _, _, _, rfl⟩
    · exact k _ hP.1
end
end K15

namespace K15
open PySem L2 Wm TL Dv
section
variable {P : Program} {w : World} {K : PySem.W.Frag} {mg : Str → Option Value} {base : Heap}
theorem bag_soft {H : Hp} {b : Addr} {n : Nat} (h : Bag H b n) : ∀ q, q = b → ∃ o, H q = some o ∧ Soft o := by
  rintro _ rfl
  obtain ⟨_, _, _, _, _, _, hb, _⟩ := h
  exact ⟨_, hb, trivial⟩
theorem BosAt.bt {B : Addr → Prop} {H H' : Hp} {vs : List V} {xs : List Bo} (h : BosAt H vs xs) (bt : Bt B H H') (hs : ∀ q, B q → ∃ o, H q = some o ∧ Soft o) : BosAt H' vs xs := by
  induction h with
  | nil => exact .nil
  | cons a _ ih =>
    obtain ⟨t, rfl, ht⟩ := a
    exact .cons ⟨t, rfl, bt.hard hs ht id⟩ ih
theorem WlAt.bt {C : Addr} {B : Addr → Prop} {H H' : Hp} {p b : Addr} {bs : List V} {m : Wl} (h : WlAt K C H p b bs m) (bt : Bt B H H') (hs : ∀ q, B q → ∃ o, H q = some o ∧ Soft o) : WlAt K C H' p b bs m := by
  obtain ⟨h1, h2, dx, fs, q, h3, h4, h5, h6⟩ := h
  exact ⟨bt.hard hs h1 id, h2.bt bt hs, dx, fs, q, bt.hard hs h3 id, h4, h5, bt.sq hs h6⟩
theorem cases_at {i : Nat} {v : V} (h : [V.str "quiet", V.str "train", V.str "key"][i]? = some v) : ∃ c : Ca, v = .str (caS c) := by
  match i, h with
  | 0, h => exact ⟨.quiet, (Option.some.inj h).symm⟩
  | 1, h => exact ⟨.train, (Option.some.inj h).symm⟩
  | 2, h => exact ⟨.key, (Option.some.inj h).symm⟩
theorem most_at {g : Int} (h0 : 0 ≤ g) (h1 : g < 3) : ∃ l : Int, atI [V.int 3, V.int 3, V.int 8] g = some (.int l) ∧ 0 < l ∧ l ≤ 8 := by
  have c : g = 0 ∨ g = 1 ∨ g = 2 := by omega
  rcases c with z | z | z <;> subst z <;> exact ⟨_, rfl, by decide, by decide⟩
theorem goodN_le3 (ds : List Nat) (ns : List Int) (e a : Int) (m : Nat) : goodN ds ns e a m ≤ m := by
  unfold goodN
  cases q : (List.range m).find? fun (k : Nat) => forB ds ns e (a + (k : Int) * len ds) with
  | none => exact Nat.le_refl _
  | some k =>
    have := List.mem_range.mp (List.mem_of_find?_eq_some q)
    show k ≤ m
    omega
theorem lyL_nf {ds : List Nat} {kind : Str} {ns : List Int} {e a : Int} {lo m : Nat} (N : Num ds) (h : m ≤ 8) (hl : lo ≤ 8) : ∀ y ∈ lyL ds kind ns e a lo m, y.ns.length < 1000 := by
  intro y my
  unfold lyL at my
  obtain ⟨k, mk, rfl⟩ := List.mem_map.mp my
  obtain ⟨m1, _⟩ := List.mem_filter.mp mk
  have g := goodN_le3 ds ns e a m
  have k8 : k ≤ 8 := by
    have := List.mem_range'_1.mp m1
    omega
  exact (trC_off N a k8 e).few
theorem Wl.Ok.nf {m : Wl} (o : m.Ok) (c : Ca) : ∀ y ∈ m.L c, y.ns.length < 1000 := by
  intro y my
  obtain ⟨x, mx, my⟩ := List.mem_flatMap.mp my
  have N := o.num x mx
  have n8 := o.n8
  unfold boxL at my
  split at my
  · unfold plainL at my
    rcases List.mem_append.mp my with my | my
    · have tr : ∀ y ∈ lyL x.1 "train" m.ns m.e 0 1 (m.n - 1), y.ns.length < 1000 := lyL_nf N (by omega) (by decide)
      cases c with
      | quiet => cases my
      | train => exact tr y my
      | key =>
        rcases List.mem_append.mp my with my | my
        · exact tr y my
        · obtain ⟨t, _, my⟩ := List.mem_flatMap.mp my
          exact lyL_nf N n8 (by decide) y my
    · obtain ⟨t, _, my⟩ := List.mem_flatMap.mp my
      exact lyL_nf N n8 n8 y my
  · cases c with
    | quiet =>
      by_cases hne : headL x.1 m.ns = []
      · rw [show shyL x.1 m.ns m.e .quiet = [] from if_pos hne] at my
        cases my
      · rw [show shyL x.1 m.ns m.e .quiet = [⟨x.1, "head", 0, 1, headL x.1 m.ns, m.e⟩] from if_neg hne] at my
        rw [List.mem_singleton.mp my]
        exact Nat.lt_of_le_of_lt (headL_off N m.ns) (by decide)
    | train => cases my
    | key => cases my
theorem bo_sc {x : Bo} (N : Num x.1) : ∀ v ∈ [V.str (numS x.1), V.str (soS x.2)], Sc v := by
  intro v m
  rcases List.mem_cons.mp m with rfl | m
  · exact .str (tx_num N)
  · rw [List.mem_singleton.mp m]
    cases x.2 <;> exact .str ⟨by decide, by decide +kernel⟩
def boD (x : Bo) : PyData := .tuple ([V.str (numS x.1), V.str (soS x.2)].map scD)
theorem BosAt.dps {H : Hp} {vs : List V} {xs : List Bo} (h : BosAt H vs xs) (N : ∀ x ∈ xs, Num x.1) : DpAll K H vs (xs.map boD) := by
  induction h with
  | nil => exact .nil
  | cons a _ ih =>
    obtain ⟨t, rfl, ht⟩ := a
    exact .cons (.tup (SqT.of ht) (scs_dp (bo_sc (N _ List.mem_cons_self)))) (ih fun x m => N x (List.mem_cons_of_mem _ m))
theorem bos_fine {xs : List Bo} (N : ∀ x ∈ xs, Num x.1) : Fine 2 (.tuple (xs.map boD)) := fine_tup fun d m => by
  obtain ⟨x, mx, rfl⟩ := List.mem_map.mp m
  exact scs_fine (bo_sc (N x mx))
theorem odd_at {H : Hp} {t l : Addr} {g : Int} (ht : H t = some (.tup [.str "quiet"])) (hl : H l = some (.lst [.str "key"])) (g0 : 0 ≤ g) (g1 : g < 7) :
    ∃ v d, atI [V.str "", V.str "Quiet", .non, .bl true, .int 0, .ref t, .ref l] g = some v ∧ OddC K H v d ∧ d.showable = true ∧ d.hasDict = false ∧ d.shown.length ≤ sizeLine := by
  have c : g = 0 ∨ g = 1 ∨ g = 2 ∨ g = 3 ∨ g = 4 ∨ g = 5 ∨ g = 6 := by omega
  rcases c with z | z | z | z | z | z | z <;> subst z
  · exact ⟨_, _, rfl, ⟨.str _, by decide +kernel, by decide +kernel, by decide +kernel⟩, by decide +kernel, by decide +kernel, by decide +kernel⟩
  · exact ⟨_, _, rfl, ⟨.str _, by decide +kernel, by decide +kernel, by decide +kernel⟩, by decide +kernel, by decide +kernel, by decide +kernel⟩
  · exact ⟨_, _, rfl, ⟨.non, by decide +kernel, by decide +kernel, by decide +kernel⟩, by decide +kernel, by decide +kernel, by decide +kernel⟩
  · exact ⟨_, _, rfl, ⟨.bl _, by decide +kernel, by decide +kernel, by decide +kernel⟩, by decide +kernel, by decide +kernel, by decide +kernel⟩
  · exact ⟨_, _, rfl, ⟨.int _, by decide +kernel, by decide +kernel, by decide +kernel⟩, by decide +kernel, by decide +kernel, by decide +kernel⟩
  · exact ⟨_, _, rfl, ⟨.tup (SqT.of ht) (.cons (.str _) .nil), by decide +kernel, by decide +kernel, by decide +kernel⟩, by decide +kernel, by decide +kernel, by decide +kernel⟩
  · exact ⟨_, _, rfl, ⟨.lst (SqL.of hl) (.cons (.str _) .nil), by decide +kernel, by decide +kernel, by decide +kernel⟩, by decide +kernel, by decide +kernel, by decide +kernel⟩
theorem ok_law (T : Txt K mg) : Rp.GOk P w K mg base CX0 16 T.a_law T.d_law ["_law_script"] (sp_law K) := by
  refine Rp.gok T.F_law sc_law (fun vs H Q E h => ?_) (fun cdv A outer s H vs Q E hg hr h => ?_)
  · obtain ⟨a, zs, rfl, _⟩ := h
    rfl
  · obtain ⟨a, zs, rfl, hS, hl, k⟩ := h
    refine ⟨_, (pss_cons (ps_set (i := 1) sc_law.nd rfl (Or.inl rfl) (pe_call (ok_bag T) (hr.mono (by decide)) (by rfl) T.g_bag T.F_bag.kp T.b_bag .nil pass0 (pa_cons (pv 0) pa_nil)))
      (pss_cons (ps_set (i := 2) sc_law.nd rfl (Or.inl rfl) (pe_call (ok_center T) (hr.mono (by decide)) (by rfl) T.g_center T.F_center.kp T.b_center .nil pass0 (pa_cons (pv 1) pa_nil)))
      (pss_cons (ps_set (i := 3) sc_law.nd rfl (Or.inl rfl) (pe_call (ok_offsets T) (hr.mono (by decide)) (by rfl) T.g_offsets T.F_offsets.kp T.b_offsets .nil pass0 (pa_cons (pv 1) (pa_cons (pv 2) pa_nil))))
      (pss_cons (ps_set (i := 4) sc_law.nd rfl (Or.inl rfl) (pe_make T.mk_init (ok_init T) (hr.mono (by decide)) (by rfl) T.gC T.b_init .nil pass0 (pa_cons (pe_ix ix_list (pv 3) pe_int (fun _ _ => rfl)) pa_nil)))
      (pss_cons (ps_set (i := 5) sc_law.nd rfl (Or.inl rfl) (pe_ix ix_list (pv 3) pe_int (fun _ _ => rfl)))
      (pss_cons (ps_set (i := 6) sc_law.nd rfl (Or.inl rfl) (pe_call (ok_boxes T) (hr.mono (by decide)) (by rfl) T.g_boxes T.F_boxes.kp T.b_boxes .nil pass0 (pa_cons (pv 1) (pa_cons (pv 2) (pa_cons (pe_op op_add pe_int (pe_call (ok_draw T) (hr.mono (by decide)) (by rfl) T.g_draw T.F_draw.kp T.b_draw .nil pass0 (pa_cons (pv 1) (pa_cons pe_int pa_nil)))) pa_nil)))))
      (pss_cons (ps_set (i := 7) sc_law.nd rfl (Or.inl rfl) (pe_op op_add pe_int (pe_call (ok_draw T) (hr.mono (by decide)) (by rfl) T.g_draw T.F_draw.kp T.b_draw .nil pass0 (pa_cons (pv 1) (pa_cons (pe_ix ix_list (pe_lst (pa_cons pe_int (pa_cons pe_int (pa_cons pe_int pa_nil)))) (pe_call (ok_draw T) (hr.mono (by decide)) (by rfl) T.g_draw T.F_draw.kp T.b_draw .nil pass0 (pa_cons (pv 1) (pa_cons pe_int pa_nil))) (fun _ _ => rfl)) pa_nil)))))
      (pss_cons (ps_set (i := 8) sc_law.nd rfl (Or.inl rfl) (pe_callB (call_max2 rfl) (by rfl) T.z_max (by decide +kernel) (pa_cons pe_int (pa_cons (pe_op op_sub (pe_op op_sub (pv 5) pe_int) (pe_call (ok_draw T) (hr.mono (by decide)) (by rfl) T.g_draw T.F_draw.kp T.b_draw .nil pass0 (pa_cons (pv 1) (pa_cons pe_int pa_nil)))) pa_nil))))
      (pss_cons (ps_for PassesOwn.never rfl (pi_list (pe_lst (pa_cons pe_str (pa_cons pe_str (pa_cons pe_str pa_nil))))) (pg_name (i := 9) sc_law.nd rfl (Or.inl rfl))
        (pss_cons (ps_set (i := 10) sc_law.nd rfl (Or.inl rfl) (Rp.pe_gcall (ok_listed T) hg (hr.mono (by decide)) (by rfl) T.g_listed T.F_listed.kp T.b_listed .nil pass0 (pa_cons (pv 4) (pa_cons (pv 5) (pa_cons (pv 6) (pa_cons (pv 7) (pa_cons (pv 9) pa_nil)))))))
        (C8.pss_cut (ps_if (PW.pt (pw_and (pt_cmpR (show OpR _ _ (De.rNeNil K) from De.op_neNil (Ind.room65 hr)) (pv 10) (pe_lst pa_nil) (nomark _)) (pw_and1 (pt_not (pt_val (pe_callB call_isi (by rfl) T.z_isinstance (by decide +kernel) (pa_cons (pe_ix ix_list (pv 10) pe_int (fun _ _ => rfl)) (pa_cons (pe_glob (v := V.ref T.L) rfl T.gL rfl) pa_nil))))))))
          (pss_one (ps_ret pe_bl))
          pss_nil)
        (pss_cons (ps_if (pt_not (pt_val (Rp.pe_gcall (ok_wlays T) hg (hr.mono (by decide)) (by rfl) T.g_wlays T.F_wlays.kp T.b_wlays .nil pass0 (pa_cons (pv 10) (pa_cons (pv 4) (pa_cons (pv 5) (pa_cons (pv 6) (pa_cons (pv 7) (pa_cons (pv 9) pa_nil)))))))))
          (pss_one (ps_ret pe_bl))
          pss_nil)
        (pss_cons (ps_if (pt_not (pt_val (pe_call (ok_twins T) (hr.mono (by decide)) (by rfl) T.g_twins T.F_twins.kp T.b_twins .nil pass0 (pa_cons (pv 10) (pa_cons (pe_slice sl_list (Rp.pe_gcall (ok_listed T) hg (hr.mono (by decide)) (by rfl) T.g_listed T.F_listed.kp T.b_listed .nil pass0 (pa_cons (pe_meth (pv 4) T.clC T.m_cut (ok_cut T) (hr.mono (by decide)) T.b_cut .nil pass0 (pa_cons (pv 8) pa_nil)) (pa_cons (pv 8) (pa_cons (pv 6) (pa_cons (pv 7) (pa_cons (pv 9) pa_nil)))))) po_none (po_some pe_int)) pa_nil)))))
          (pss_one (ps_ret pe_bl))
          pss_nil)
        (pss_one (ps_for PassesOwn.never rfl (pi_range1 (by rfl) T.z_range (pa_cons pe_int pa_nil)) (pg_name (i := 11) sc_law.nd rfl (Or.inl rfl))
          (pss_cons (ps_set (i := 12) sc_law.nd rfl (Or.inl rfl) (pe_tup (pa_cons (pv 2) (pa_cons pe_str (pa_cons pe_int (pa_cons (pv 7) pa_nil))))))
          (C8.pss_cut (ps_if (pt_cmpR (show OpR _ _ (De.rNeNil K) from De.op_neNil (Ind.room65 hr)) (pv 10) (pe_lst pa_nil) (nomark _))
            (pss_one (ps_set (i := 12) sc_law.nd rfl (Or.inl rfl) (pe_meth0 (pe_ix ix_list (pv 10) (pe_call (ok_draw T) (hr.mono (by decide)) (by rfl) T.g_draw T.F_draw.kp T.b_draw .nil pass0 (pa_cons (pv 1) (pa_cons (pe_callB call_len_seq (by rfl) T.z_len PySem.boot_len (pa_cons (pv 10) pa_nil)) pa_nil))) (fun _ _ => rfl)) T.clL T.m_facts (ok_facts T) (hr.mono (by decide)) T.b_facts .nil pass0)))
            (pss_one (ps_if (pt_cmpR (op_neD hr.units) (pv 6) (pe_tup pa_nil) (nomark _))
              (pss_one (ps_set (i := 12) sc_law.nd rfl (Or.inl rfl) (pe_tup (pa_cons (pe_ix ix_tup (pe_ix ix_tup (pv 6) pe_int (fun _ _ => rfl)) pe_int (fun _ _ => rfl)) (pa_cons pe_str (pa_cons pe_int (pa_cons (pv 7) pa_nil)))))))
              pss_nil)))
          (pss_cons (ps_set (i := 12) sc_law.nd rfl (Or.inl rfl) (pe_call (ok_bent T) (hr.mono (by decide)) (by rfl) T.g_bent T.F_bent.kp T.b_bent .nil pass0 (pa_cons (pv 1) (pa_cons (pv 12) pa_nil))))
          (pss_cons (ps_set (i := 13) sc_law.nd rfl (Or.inl rfl) (pe_call (ok_known T) (hr.mono (by decide)) (by rfl) T.g_known T.F_known.kp T.b_known .nil pass0 (pa_cons (pv 12) (pa_cons (pv 10) pa_nil))))
          (pss_cons (ps_set (i := 14) sc_law.nd rfl (Or.inl rfl) (Rp.pe_gcall (ok_tried T) hg (hr.mono (by decide)) (by rfl) T.g_tried T.F_tried.kp T.b_tried .nil pass0 (pa_cons (pv 12) (pa_cons (pv 4) (pa_cons (pv 5) (pa_cons (pv 6) (pa_cons (pv 7) (pa_cons (pv 9) pa_nil))))))))
          (pss_one (ps_if (pt_cmpR op_isN (pv 13) pe_non (nomark _))
            (pss_one (ps_if (pt_cmpR (show OpR _ _ (Tx3.rTx false K) from Tx3.op_neTx hr.units) (pv 14) (pe_lst (pa_cons pe_str (pa_cons (pe_callB (show CallR _ _ (Rp.rRepr K) from Rp.call_reprD hg hr.units) (by rfl) T.z_repr (by decide +kernel) (pa_cons (pv 12) pa_nil)) pa_nil))) (nomark _))
              (pss_one (ps_ret pe_bl))
              pss_nil))
            (pss_one (ps_if (PW.pt (pw_or (pt_cmpR op_ne (pe_ix ix_list (pv 14) pe_int (fun _ _ => rfl)) pe_str (nomark _)) (pw_or1 (pt_cmpR (On.op_ne T.neL ((ok_leq T).raw T.b_leq .nil) (hr.mono (by decide)) hr.units pass0) (pe_ix ix_list (pv 14) pe_int (fun _ _ => rfl)) (pv 13) (nomark _)))))
              (pss_one (ps_ret pe_bl))
              pss_nil))))))))))))))))
      (pss_cons (ps_set (i := 15) sc_law.nd rfl (Or.inl rfl) (pe_ix ix_list (pe_lst (pa_cons pe_str (pa_cons pe_str (pa_cons pe_non (pa_cons pe_bl (pa_cons pe_int (pa_cons (pe_tup (pa_cons pe_str pa_nil)) (pa_cons (pe_lst (pa_cons pe_str pa_nil)) pa_nil)))))))) (pe_call (ok_draw T) (hr.mono (by decide)) (by rfl) T.g_draw T.F_draw.kp T.b_draw .nil pass0 (pa_cons (pv 1) (pa_cons pe_int pa_nil))) (fun _ _ => rfl)))
      (pss_cons (ps_if (pt_cmpR (show OpR _ _ (Tx3.rTx false K) from Tx3.op_neTx hr.units) (Rp.pe_gcall (ok_tried T) hg (hr.mono (by decide)) (by rfl) T.g_tried T.F_tried.kp T.b_tried .nil pass0 (pa_cons pe_non (pa_cons (pv 4) (pa_cons (pv 5) (pa_cons (pv 6) (pa_cons (pv 7) (pa_cons (pv 15) pa_nil))))))) (pe_lst (pa_cons pe_str (pa_cons (pe_callB (show CallR _ _ (Rp.rRepr K) from Rp.call_reprD hg hr.units) (by rfl) T.z_repr (by decide +kernel) (pa_cons (pv 15) pa_nil)) (pa_cons pe_bl pa_nil)))) (nomark _))
        (pss_one (ps_ret pe_bl))
        pss_nil)
      (pss_one (ps_ret (pe_cmpR (show OpR _ _ (Tx3.rTx true K) from Tx3.op_eqTx hr.units) (Rp.pe_gcall (ok_listed T) hg (hr.mono (by decide)) (by rfl) T.g_listed T.F_listed.kp T.b_listed .nil pass0 (pa_cons (pv 4) (pa_cons (pv 5) (pa_cons (pv 6) (pa_cons (pv 7) (pa_cons (pv 15) pa_nil)))))) (pe_lst (pa_cons pe_str (pa_cons (pe_callB (show CallR _ _ (Rp.rRepr K) from Rp.call_reprD hg hr.units) (by rfl) T.z_repr (by decide +kernel) (pa_cons (pv 15) pa_nil)) (pa_cons pe_bl pa_nil)))) (nomark _))))))))))))))), ?_⟩
    refine ⟨_, rfl, a, zs, rfl, hS, hl, fun H1 b s1 bag1 => ?_⟩
    refine ⟨_, rfl, b, 0, rfl, bag1, by omega, fun H2 ds N bag2 but2 => ?_⟩
    refine ⟨_, rfl, _, rfl, b, 7, ds, rfl, N, bag2, by omega, fun H3 r q xs e hr hq hx lx e1 e200 bag3 but3 => ?_⟩
    refine ⟨_, rfl, r, _, 0, _, rfl, rfl, SqL.of hr, atI_nat (j := 0) rfl, fun x dy hx2 hdy ne => ?_⟩
    have m1 := made (C := T.C) hx2 hdy ne
    refine ⟨x, dy, q, false, xs, rfl, upd_same, Kd.Is.lst (SqL.of (m1 _ _ hq)), fun n m => (hx n m).1, by omega, fun H4 ns off srt le sA => ⟨rfl, ?_⟩⟩
    have s4 := made_off hx2 hdy ne off
    have O : Off ns := Off.sort srt (fun n m => (hx n m).1) (by omega)
    have hr4 := s4 _ _ hr
    have bag4 := bag3.keep s4
    refine ⟨_, rfl, r, _, 1, _, rfl, rfl, SqL.of hr4, atI_nat (j := 1) rfl, ?_⟩
    refine ⟨_, rfl, _, rfl, _, rfl, b, _, 3, rfl, by decide, by decide, bag4, by omega, fun H5 d d0 d3 bag5 but5 => ?_⟩
    obtain ⟨mb, emb⟩ : ∃ mb : Nat, (1 : Int) + d = (mb : Nat) := ⟨(1 + d).toNat, by omega⟩
    refine ⟨_, _, rfl, rfl, b, _, mb, ds, by rw [← emb]; rfl, N, bag5, by omega, by omega, fun H6 t bs ys t0 ht hB ly hN hnd bag6 but6 => ?_⟩
    refine ⟨_, rfl, by show 3 ≤ sizeLine; decide, fun L hL => ?_⟩
    have sN := same_new (o := .lst [.int 3, .int 3, .int 8]) hL
    have Lb7 := Lm.bag_off bag6 hL
    refine ⟨_, rfl, b, _, 3, rfl, by decide, by decide, bag6.keep sN, by omega, fun H7 g g0 g1 bag7 but7 => ?_⟩
    obtain ⟨lm, hlm, lm0, lm8⟩ := most_at g0 g1
    refine ⟨L, _, g, _, rfl, rfl, SqL.of (but7.keep _ _ Lb7 upd_same), hlm, b, _, lm, rfl, lm0, by omega, bag7, by omega, fun H8 mo mo0 mo1 bag8 but8 => ?_⟩
    obtain ⟨mn, emn⟩ : ∃ mn : Nat, (1 : Int) + mo = (mn : Nat) := ⟨(1 + mo).toNat, by omega⟩
    refine ⟨_, _, rfl, rfl, ?_⟩
    (try dsimp only)
    rw [emn]
    refine ⟨_, rfl, ?_⟩
    have tb := Lm.bag_off bag5 t0
    have ht8 := but8.keep _ _ tb (but7.keep _ _ tb (sN _ _ ht))
    have bu68 : But b H6 H8 := (But.of sN).trans (but7.trans but8)
    have bd78 : Bt (· = b) H6 H8 := fun p o n h => bu68.keep _ _ n h
    have hS8 : StrAt K T.C H8 x ns := by
      obtain ⟨dx, fs, q, h3, h4, h5, h6⟩ := sA
      have bd : Bt (· = b) H4 H8 := fun p o n h => (but5.trans (but6.trans bu68)).keep _ _ n h
      exact ⟨dx, fs, q, bd.hard (bag_soft bag4) h3 id, h4, h5, bd.sq (bag_soft bag4) h6⟩
    have hB8 : BosAt H8 bs ys := hB.bt bd78 (bag_soft bag6)
    refine ⟨_, _, rfl, rfl, _, rfl, b, _, 6, rfl, by decide, by decide, bag8, by omega, fun H9 g6 g60 g61 bag9 but9 => ?_⟩
    refine ⟨_, _, rfl, rfl, _, _, rfl, ?_⟩
    (try dsimp only)
    have hB9 : BosAt H9 bs ys := hB8.but bag8 but9
    have ht9 := but9.keep _ _ (bag_tup bag8 ht8) ht8
    have hS9 : StrAt K T.C H9 x ns := by
      obtain ⟨dx, fs, q, h3, h4, h5, h6⟩ := hS8
      have bd : Bt (· = b) H8 H9 := fun p o n h => but9.keep _ _ n h
      exact ⟨dx, fs, q, bd.hard (bag_soft bag8) h3 id, h4, h5, bd.sq (bag_soft bag8) h6⟩
    obtain ⟨sh, esh, sh1, sh2⟩ : ∃ sh : Int, (if ((e : Nat) : Int) - 1 - g6 > 1 then ((e : Nat) : Int) - 1 - g6 else 1) = sh ∧ 1 ≤ sh ∧ sh ≤ 200 := ⟨_, rfl, by split <;> omega, by split <;> omega⟩
    rw [esh]
    refine ⟨by show 3 ≤ sizeLine; decide, fun Lc hLc => ?_⟩
    have sC := same_new (o := .lst [.str "quiet", .str "train", .str "key"]) hLc
    have hLc2 : upd H9 Lc (.lst [.str "quiet", .str "train", .str "key"]) Lc = some (.lst [.str "quiet", .str "train", .str "key"]) := upd_same
    have Lcb := Lm.bag_off bag9 hLc
    have bag10 := bag9.keep sC
    have hb1 : 1 ≤ mn ∧ mn ≤ 8 := by omega
    have Wo : (Wl.Ok ⟨ys, ns, (e : Nat), mn⟩) := ⟨ly, hN, O, by show ns.length ≤ 100; omega, hb1.1, hb1.2, by show (1 : Int) ≤ (e : Nat); omega, by show ((e : Nat) : Int) ≤ 1000; omega⟩
    have Wo2 : Wl.Ok ⟨ys, cutL sh ns, sh, mn⟩ := ⟨ly, hN, cutL_off O, Nat.le_trans (cutL_len _ _) (by omega), hb1.1, hb1.2, sh1, by show sh ≤ 1000; omega⟩
    have W10 : WlAt K T.C (upd H9 Lc (.lst [.str "quiet", .str "train", .str "key"])) x t bs ⟨ys, ns, (e : Nat), mn⟩ := ⟨sC _ _ ht9, hB9.k sC, hS9.k sC⟩
    generalize upd H9 Lc (.lst [.str "quiet", .str "train", .str "key"]) = H10 at hLc2 bag10 W10 ⊢
    refine ⟨Lc, rfl, ⟨_, SqL.of hLc2⟩, ?_⟩
    refine for_list (xs := [.str "quiet", .str "train", .str "key"]) (fun i σ A => (∃ v9 v10 v11 v12 v13 v14 v15, σ = [some (.ref a), some (.ref b), some (.str (numS ds)), some (.ref r), some (.ref x), some (.int (e : Nat)), some (.ref t), some (.int (mn : Nat)), some (.int sh), v9, v10, v11, v12, v13, v14, v15]) ∧ But b H10 A ∧ Bag A b (100 + 20 * i))
      ⟨⟨none, none, none, none, none, none, none, rfl⟩, But.refl _ _, bag10.mono (by omega)⟩ (fun i σ A _ h => SqL.of (h.2.1.keep _ _ Lcb hLc2)) (fun i v σ A hv hP => ?_) (fun σ A hP => ?_)
    · obtain ⟨⟨v9, v10, v11, v12, v13, v14, v15, rfl⟩, bA, bagA⟩ := hP
      have i3 : i < 3 := (List.getElem?_eq_some_iff.mp hv).1
      obtain ⟨ca, rfl⟩ := cases_at hv
      have WA : WlAt K T.C A x t bs ⟨ys, ns, (e : Nat), mn⟩ := W10.bt (fun p o n h => bA.keep _ _ n h) (bag_soft bag10)
      refine ⟨_, rfl, _, rfl, _, rfl, _, rfl, _, rfl, x, t, bs, ⟨ys, ns, (e : Nat), mn⟩, _, rfl, WA, Wo, .inl ⟨ca, rfl, fun A1 F us sF F0 hF hY => ?_⟩⟩
      have Fb := Lm.bag_off bagA F0
      refine ⟨fun σ B => Same A1 B ∧ σ = [some (.ref a), some (.ref b), some (.str (numS ds)), some (.ref r), some (.ref x), some (.int (e : Nat)), some (.ref t), some (.int (mn : Nat)), some (.int sh), some (.str (caS ca)), some (.ref F), v11, v12, v13, v14, v15], ?_, ?_⟩
      · refine ⟨_, rfl, by show 0 ≤ sizeLine; decide, fun F2 hF2 => ?_⟩
        have sF2 := same_new (o := .lst []) hF2
        have e2 : upd A1 F2 (.lst []) F2 = some (.lst []) := upd_same
        refine ⟨F, F2, us, rfl, rfl, SqL.of (sF2 _ _ hF), SqL.of e2, _, rfl, ?_⟩
        have hY0 := hY
        generalize Wl.L _ ca = LL at hY0
        cases hY0 with
        | nil => exact iteF ⟨sF2, rfl⟩
        | cons ha hr =>
          obtain ⟨bp, dx2, fs2, t2, rfl, i2, _⟩ := id (ha.k sF2)
          refine iteT ?_
          refine ⟨_, rfl, F, _, 0, _, rfl, rfl, SqL.of (sF2 _ _ hF), atI_nat (j := 0) rfl, _, _, _, _, true, rfl, .own T.L, .base (.ins i2 T.clL T.isiL.ca T.isiL.cn T.isiL.ct T.isiL.cm), T.kSL, true, rfl, iteF ⟨sF2, rfl⟩⟩
      · rintro σ B ⟨sB, rfl⟩
        have df := Wo.df hnd ca
        have sAB := sF.trans sB
        have hYB := hY.k sB
        have hFB := sB _ _ hF
        have WB := WA.k sAB
        refine ⟨_, rfl, _, rfl, _, rfl, _, rfl, _, rfl, _, rfl, F, x, t, bs, us, ⟨ys, ns, (e : Nat), mn⟩, ca, rfl, hFB, hYB, WB, Wo, df_nodup df, df_inj df, Wo.ly ca, fun B1 s1 => ⟨_, rfl, iteF ?_⟩⟩
        have WB1 := WB.k s1
        obtain ⟨_, _, dx3, fs3, q3, h3, h4, h5, h6⟩ := id WB1
        refine ⟨_, rfl, _, rfl, x, dx3, fs3, rfl, h3, h5 _ (by decide), _, rfl, x, ns, sh, rfl, WB1.2.2, O, fun B2 x2 s2 x20 hx2' => ?_⟩
        have WB2 : WlAt K T.C B2 x2 t bs ⟨ys, cutL sh ns, sh, mn⟩ := ⟨s2 _ _ WB1.1, WB1.2.1.k s2, hx2'⟩
        refine ⟨_, rfl, _, rfl, _, rfl, _, rfl, x2, t, bs, ⟨ys, cutL sh ns, sh, mn⟩, _, rfl, WB2, Wo2, .inl ⟨ca, rfl, fun B3 F3 vs3 s3 F30 hF3 hY3 => ?_⟩⟩
        refine ⟨24, rfl, F3, _, rfl, SqL.of hF3, fun a1 ha1 => ?_⟩
        obtain ⟨m1, e1⟩ := cut_any vs3 (some 24)
        rw [e1]
        have sp1 := same_new (o := .lst (vs3.take m1)) ha1
        have s4 := ((s1.trans s2).trans s3).trans sp1
        have ok2 : ∀ y ∈ Wl.L ⟨ys, ns, (e : Nat), mn⟩ ca ++ (Wl.L ⟨ys, cutL sh ns, sh, mn⟩ ca).take m1, LyOk y ∧ y.ns.length < 1000 := fun y my => (List.mem_append.mp my).elim (fun my => ⟨Wo.ly ca y my, Wo.nf ca y my⟩) fun my => ⟨Wo2.ly ca y (List.mem_of_mem_take my), Wo2.nf ca y (List.mem_of_mem_take my)⟩
        refine ⟨F, a1, us, _, _, _, rfl, s4 _ _ hFB, upd_same, hYB.k s4, (hY3.k sp1).take m1, ok2, by rw [hYB.len]; exact Nat.le_trans (Wo.len ca) (by decide), by rw [List.length_take]; have := hY3.len; have := Wo2.len ca; omega, fun B5 s5 => ⟨_, rfl, iteF ?_⟩⟩
        have s6 := s4.trans s5
        have hF5 := s6 _ _ hFB
        have hY5 := hYB.k s6
        have W5 := WB.k s6
        have bag5 : Bag B5 b (100 + 20 * i) := bagA.keep (sAB.trans s6)
        have bA5 : But b H10 B5 := bA.trans (But.of (sAB.trans s6))
        have Fb5 : F ≠ b := Fb
        have lus := hY5.len
        have lL := Wo.len ca
        have lyok := Wo.ly ca
        obtain ⟨LL, eLL⟩ : ∃ LL, Wl.L ⟨ys, ns, (e : Nat), mn⟩ ca = LL := ⟨_, rfl⟩
        rw [eLL] at hY5 lus lL lyok
        refine ⟨_, rfl, by decide, by decide, ?_⟩
        refine for_range (fun k σ A => (∃ v11 v12 v13 v14 v15, σ = [some (.ref a), some (.ref b), some (.str (numS ds)), some (.ref r), some (.ref x), some (.int (e : Nat)), some (.ref t), some (.int (mn : Nat)), some (.int sh), some (.str (caS ca)), some (.ref F), v11, v12, v13, v14, v15]) ∧ But b B5 A ∧ Bag A b (100 + 20 * i + 4 * k))
          ⟨⟨_, _, _, _, _, rfl⟩, But.refl _ _, bag5⟩ (fun k σ A hk hP => ?_) (fun σ A hP => ?_)
        · obtain ⟨⟨v11, v12, v13, v14, v15, rfl⟩, bA6, bagA6⟩ := hP
          have W6 : WlAt K T.C A x t bs ⟨ys, ns, (e : Nat), mn⟩ := W5.bt (fun p o n h => bA6.keep _ _ n h) (bag_soft bag5)
          have hY6 : LaysAt K T.C T.L A us LL := hY5.bt (fun p o n h => bA6.keep _ _ n h) (bag_soft bag5)
          have hF6 := bA6.keep _ _ Fb5 hF5
          refine ⟨_, rfl, _, rfl, by show 4 ≤ sizeLine; decide, fun u0 hu0 => ?_⟩
          have s7 := same_new (o := .tup [.str (numS ds), .str "pull", .int 0, .int (mn : Nat)]) hu0
          have e7 : upd A u0 (.tup [.str (numS ds), .str "pull", .int 0, .int (mn : Nat)]) u0 = some (.tup [.str (numS ds), .str "pull", .int 0, .int (mn : Nat)]) := upd_same
          have W7 := W6.k s7
          have hY7 := hY6.k s7
          have hF7 := s7 _ _ hF6
          have bag7 := bagA6.keep s7
          have bA7 := bA6.trans (But.of s7)
          generalize upd A u0 (.tup [.str (numS ds), .str "pull", .int 0, .int (mn : Nat)]) = A7 at e7 W7 hY7 hF7 bag7 bA7 ⊢
          refine ⟨fun σ B => ∃ (tt : Addr) (es : List Nat) (kd : Str) (aa ii : Int), σ = [some (.ref a), some (.ref b), some (.str (numS ds)), some (.ref r), some (.ref x), some (.int (e : Nat)), some (.ref t), some (.int (mn : Nat)), some (.int sh), some (.str (caS ca)), some (.ref F), some (.int (0 + (k : Nat))), some (.ref tt), v13, v14, v15] ∧ B tt = some (.tup [.str (numS es), .str kd, .int aa, .int ii]) ∧ Num es ∧ Tx kd ∧ aa.natAbs < 2 ^ 100 ∧ ii.natAbs < 2 ^ 100 ∧ But b A7 B ∧ Bag B b (100 + 20 * i + 4 * k + 1), ?_, ?_⟩
          · refine ⟨_, rfl, by show 0 ≤ sizeLine; decide, fun F2 hF2 => ?_⟩
            have sF2 := same_new (o := .lst []) hF2
            have e2 : upd A7 F2 (.lst []) F2 = some (.lst []) := upd_same
            have hF8 := sF2 _ _ hF7
            have hY8 := hY7.k sF2
            have W8 := W7.k sF2
            have bag8 := bag7.keep sF2
            have e8 := sF2 _ _ e7
            generalize upd A7 F2 (.lst []) = A8 at sF2 e2 hF8 hY8 W8 bag8 e8 ⊢
            refine ⟨F, F2, us, rfl, rfl, SqL.of hF8, SqL.of e2, _, rfl, ?_⟩
            cases eu : us.isEmpty with
            | false =>
              refine iteT ?_
              have pos : 0 < us.length := List.length_pos_iff.mpr fun z => by rw [z] at eu; cases eu
              refine ⟨_, rfl, _, rfl, _, rfl, F, us, rfl, .inl (SqL.of hF8), b, _, _, rfl, by omega, by omega, bag8, by omega, fun B1 g g0 g1 bagB butB => ?_⟩
              obtain ⟨j, rfl⟩ : ∃ j : Nat, g = (j : Nat) := ⟨g.toNat, by omega⟩
              have hu : us[j]? = some (us[j]'(by omega)) := List.getElem?_eq_getElem (by omega)
              generalize us[j]'(by omega) = uj at hu
              have hY9 : LaysAt K T.C T.L B1 us LL := hY8.bt (fun p o n h => butB.keep _ _ n h) (bag_soft bag8)
              obtain ⟨y, hy, hLy⟩ := hY9.at j uj hu
              have oy := lyok y (List.mem_of_getElem? hy)
              obtain ⟨lp, dx, fs, q5, rfl, i1, l1, l2, l3, l4, l5, l6, l7, l8⟩ := id hLy
              refine ⟨F, us, _, _, rfl, rfl, SqL.of (butB.keep _ _ Fb5 hF8), atI_nat hu, ?_⟩
              refine ⟨lp, dx, fs, rfl, i1, l8 _ (by decide) (by decide) (by decide) (by decide) (by decide) (by decide), lp, y, rfl, hLy, fun B2 f1 s1 h1 => ?_⟩
              exact ⟨f1, y.ds, y.kind, y.a, _, rfl, h1, oy.num, oy.kind, oy.a, by have := oy.n; omega, (But.of sF2).trans (butB.trans (But.of s1)), bagB.keep s1⟩
            | true =>
              refine iteF ?_
              refine ⟨_, rfl, by show 0 ≤ sizeLine; decide, fun F3 hF3 => ?_⟩
              have sF3 := same_new (o := .tup []) hF3
              have e3 : upd A8 F3 (.tup []) F3 = some (.tup []) := upd_same
              have W9 := W8.k sF3
              have bag9 := bag8.keep sF3
              have e9 := sF3 _ _ e8
              have b9 : But b A7 (upd A8 F3 (.tup [])) := (But.of sF2).trans (But.of sF3)
              generalize upd A8 F3 (.tup []) = A9 at sF3 e3 W9 bag9 e9 b9 ⊢
              obtain ⟨w1, w2, _⟩ := id W9
              refine ⟨.tuple (ys.map boD), .tuple [], .tup (SqT.of w1) (w2.dps hN), .tup (SqT.of e3) .nil, (bos_fine hN).shaped (by decide), by decide, _, rfl, ?_⟩
              cases w2 with
              | nil => exact iteF ⟨u0, ds, _, _, _, rfl, e9, N, ⟨by decide, by decide +kernel⟩, by decide, by omega, b9, bag9.mono (by omega)⟩
              | cons c1 c2 =>
                obtain ⟨t1, rfl, ht1⟩ := c1
                refine iteT ?_
                refine ⟨_, rfl, t, _, 0, _, rfl, rfl, SqT.of w1, atI_nat (j := 0) rfl, t1, _, 0, _, rfl, rfl, SqT.of ht1, atI_nat (j := 0) rfl, _, rfl, by show 4 ≤ sizeLine; decide, fun u2 hu2 => ?_⟩
                exact ⟨u2, _, _, _, _, rfl, upd_same, hN _ List.mem_cons_self, ⟨by decide, by decide +kernel⟩, by decide, by omega, b9.trans (But.of (same_new hu2)), (bag9.keep (same_new hu2)).mono (by omega)⟩
          · rintro σ B ⟨tt, es, kd, aa, ii, rfl, htt, Ne, tk, a1, a2, b8, bagB⟩
            have W8 : WlAt K T.C B x t bs ⟨ys, ns, (e : Nat), mn⟩ := W7.bt (fun p o n h => b8.keep _ _ n h) (bag_soft bag7)
            have hY8 : LaysAt K T.C T.L B us LL := hY7.bt (fun p o n h => b8.keep _ _ n h) (bag_soft bag7)
            have hF8 := b8.keep _ _ Fb5 hF7
            refine ⟨_, rfl, _, rfl, b, tt, _, es, kd, aa, ii, rfl, bagB, by omega, htt, Ne, tk, a1, a2, fun B1 v f hf fo bagC butC => ?_⟩
            have W9 : WlAt K T.C B1 x t bs ⟨ys, ns, (e : Nat), mn⟩ := W8.bt (fun p o n h => butC.keep _ _ n h) (bag_soft bagB)
            have hY9 : LaysAt K T.C T.L B1 us LL := hY8.bt (fun p o n h => butC.keep _ _ n h) (bag_soft bagB)
            have hF9 := butC.keep _ _ Fb5 hF8
            have b9 := bA7.trans (b8.trans butC)
            refine ⟨_, rfl, _, rfl, v, F, f, us, LL, rfl, hf, fo, hF9, hY9, lyok, fun B2 s2 => ⟨fun y hy u hu => ?_, fun hno => ?_⟩⟩
            · obtain ⟨up, dx, fs, q5, rfl, i1, l1, l2, l3, l4, l5, l6, l7, l8⟩ := id hu
              refine ⟨_, rfl, _, rfl, _, rfl, _, rfl, _, rfl, _, rfl, v, _, x, t, bs, ⟨ys, ns, (e : Nat), mn⟩, f, rfl, hf.k s2, fo, W9.k s2, Wo, .inl ⟨ca, rfl, fun B3 r3 s3 r30 => ⟨fun z hz w hr hL => ?_, fun hno => (by rw [eLL, hy] at hno; cases hno)⟩⟩⟩
              rw [eLL, hy] at hz
              cases hz
              refine ⟨_, rfl, rfl, _, rfl, ?_⟩
              rw [show decide (V.ref up = V.non) = false from decide_eq_false fun e => V.noConfusion e]
              refine iteF ?_
              refine ⟨_, rfl, r3, _, 0, _, rfl, rfl, SqL.of hr, atI_nat (j := 0) rfl, rfl, _, rfl, ne_go (fun n => absurd rfl n) fun _ => ?_⟩
              obtain ⟨wp, _, _, _, rfl, _⟩ := id hL
              refine ⟨_, rfl, r3, _, 1, _, rfl, rfl, SqL.of hr, atI_nat (j := 1) rfl, _, rfl, ne_lay hL (hu.k s3) ⟨_, rfl, ?_⟩⟩
              rw [decide_eq_true rfl]
              exact iteF ⟨⟨_, _, _, _, _, rfl⟩, b9.trans (But.of (s2.trans s3)), (bagC.keep (s2.trans s3)).mono (by omega)⟩
            · refine ⟨_, rfl, _, rfl, _, rfl, _, rfl, _, rfl, _, rfl, v, _, x, t, bs, ⟨ys, ns, (e : Nat), mn⟩, f, rfl, hf.k s2, fo, W9.k s2, Wo, .inl ⟨ca, rfl, fun B3 r3 s3 r30 => ⟨fun z hz => (by rw [eLL, hno] at hz; cases hz), fun _ hr => ?_⟩⟩⟩
              refine ⟨_, rfl, rfl, _, rfl, iteT ?_⟩
              obtain ⟨z1, z2, z3, z4⟩ := fx_show fo
              refine ⟨_, rfl, _, rfl, v, f.D, rfl, fx_dp fo (hf.k (s2.trans s3)), z1, z2, z3, z4, by show 2 ≤ sizeLine; decide, fun r4 h4 => ?_⟩
              have s4 := same_new (o := .lst [.str "no lay", .str f.D.shown]) h4
              refine ⟨r3, r4, _, rfl, rfl, SqL.of (s4 _ _ hr), SqL.of upd_same, rfl, _, rfl, iteF ?_⟩
              exact ⟨⟨_, _, _, _, _, rfl⟩, b9.trans (But.of ((s2.trans s3).trans s4)), (bagC.keep ((s2.trans s3).trans s4)).mono (by omega)⟩
        · obtain ⟨⟨v11, v12, v13, v14, v15, rfl⟩, bA6, bagA6⟩ := hP
          exact ⟨⟨_, _, _, _, _, _, _, rfl⟩, bA5.trans bA6, bagA6.mono (by omega)⟩
    · obtain ⟨⟨v9, v10, v11, v12, v13, v14, v15, rfl⟩, bA, bagA⟩ := hP
      have bagA : Bag A b 160 := bagA
      have WA : WlAt K T.C A x t bs ⟨ys, ns, (e : Nat), mn⟩ := W10.bt (fun p o n h => bA.keep _ _ n h) (bag_soft bag10)
      refine ⟨by show 1 ≤ sizeLine; decide, fun t1 ht1 => ⟨by show 1 ≤ sizeLine; decide, fun l1 hl1 => ⟨by show 7 ≤ sizeLine; decide, fun M hM => ?_⟩⟩⟩
      have z1 := same_new (o := .tup [.str "quiet"]) ht1
      have y1 : upd A t1 (.tup [.str "quiet"]) t1 = some (.tup [.str "quiet"]) := upd_same
      have bg1 := bagA.keep z1
      generalize upd A t1 (.tup [.str "quiet"]) = A1 at hl1 hM z1 y1 bg1 ⊢
      have z2 := same_new (o := .lst [.str "key"]) hl1
      have y2 : upd A1 l1 (.lst [.str "key"]) l1 = some (.lst [.str "key"]) := upd_same
      have bg2 := bg1.keep z2
      have lb := Lm.bag_off bg1 hl1
      have y12 := z2 _ _ y1
      generalize upd A1 l1 (.lst [.str "key"]) = A2 at hM z2 y2 bg2 y12 ⊢
      have z3 := same_new (o := .lst [.str "", .str "Quiet", .non, .bl true, .int 0, .ref t1, .ref l1]) hM
      have y3 : upd A2 M (.lst [.str "", .str "Quiet", .non, .bl true, .int 0, .ref t1, .ref l1]) M = some (.lst [.str "", .str "Quiet", .non, .bl true, .int 0, .ref t1, .ref l1]) := upd_same
      have bg3 := bg2.keep z3
      have Mb := Lm.bag_off bg2 hM
      have y13 := z3 _ _ y12
      have y23 := z3 _ _ y2
      have W3 := WA.k ((z1.trans z2).trans z3)
      generalize upd A2 M (.lst [.str "", .str "Quiet", .non, .bl true, .int 0, .ref t1, .ref l1]) = A3 at z3 y3 bg3 y13 y23 W3 ⊢
      refine ⟨_, rfl, b, _, 7, rfl, by decide, by decide, bg3, by omega, fun A4 g g0 g1 bg4 bu4 => ?_⟩
      have W4 : WlAt K T.C A4 x t bs ⟨ys, ns, (e : Nat), mn⟩ := W3.bt (fun p o n h => bu4.keep _ _ n h) (bag_soft bg3)
      obtain ⟨v, dd, hat, odd, q1, q2, q3⟩ := odd_at (K := K) (bu4.keep _ _ (bag_tup bg3 y13) y13) (bu4.keep _ _ lb y23) g0 g1
      refine ⟨M, _, g, _, rfl, rfl, SqL.of (bu4.keep _ _ Mb y3), hat, ?_⟩
      refine ⟨_, rfl, _, rfl, _, rfl, _, rfl, _, rfl, .non, v, x, t, bs, ⟨ys, ns, (e : Nat), mn⟩, .sc .non, rfl, rfl, ⟨fun x m => (by rw [List.mem_singleton.mp m]; exact .non), Nat.le_of_ble_eq_true rfl⟩, W4, Wo, .inr ⟨dd, odd, q1, q2, q3, fun B2 r2 s2 hr2 => ?_⟩⟩
      refine ⟨_, rfl, v, dd, rfl, (odd.k s2).1, q1, q2, odd.2.2.1, q3, by show 3 ≤ sizeLine; decide, fun r4 h4 => ?_⟩
      have s4 := same_new (o := .lst [.str "case", .str dd.shown, .bl true]) h4
      refine ⟨r2, r4, _, rfl, rfl, SqL.of (s4 _ _ hr2), SqL.of upd_same, rfl, _, rfl, iteF ?_⟩
      refine ⟨_, rfl, _, rfl, _, rfl, _, rfl, _, rfl, x, t, bs, ⟨ys, ns, (e : Nat), mn⟩, v, rfl, W4.k (s2.trans s4), Wo, .inr ⟨dd, odd.k (s2.trans s4), q1, q2, q3, fun B3 r3 s3 hr3 => ?_⟩⟩
      refine ⟨_, rfl, v, dd, rfl, (odd.k ((s2.trans s4).trans s3)).1, q1, q2, odd.2.2.1, q3, by show 3 ≤ sizeLine; decide, fun r5 h5 => ?_⟩
      have s5 := same_new (o := .lst [.str "case", .str dd.shown, .bl true]) h5
      exact ⟨r3, r5, _, rfl, rfl, SqL.of (s5 _ _ hr3), SqL.of upd_same, rfl, k _⟩
end
end K15

namespace K15
open PySem L2 Wm TL Dv PySem.W
theorem ns_ok {K : PySem.W.Frag} {oN : Addr} {oc1 : Value} {od1 : Option Addr} {oes : Array DictEntry} {oex : Nat} {osl : Array (Option Value)} (ol : K.lookup oN = some ⟨oc1, od1, .dict oes oex, osl⟩) (on : (oes.toList.all fun e => match e.key with | .str _ _ => true | _ => false) = true) : PySem.W.nsOkIn K oN = true := by
  unfold PySem.W.nsOkIn
  rw [ol]
  show (oes.all fun e => match e.key with | .str _ _ => true | _ => false) = true
  rw [← Array.all_toList]
  exact on
theorem all_mk {l : PySem.W.OpenLaw} {w : World} {K : PySem.W.Frag} {h : Heap} {mg : Str → Option Value} {fa : Addr} (X : K.In h) (G : h.Ns mainGlobals mg) (hfa : mg "law" = some (.ref fa))
    {xC : Addr}
    (axC : PySem.W.nsIn K mainGlobals "Strokes" = some (some (.ref xC)))
    {xW : Addr}
    (axW : PySem.W.nsIn K mainGlobals "Town" = some (some (.ref xW)))
    {xLa : Addr}
    (axLa : PySem.W.nsIn K mainGlobals "Lay" = some (some (.ref xLa)))
    {xTr : Addr}
    (axTr : PySem.W.nsIn K mainGlobals "Train" = some (some (.ref xTr)))
    {x_is_whole : Addr} {od_is_whole an_is_whole : Option Addr} {sl_is_whole : Array (Option Value)} {oc_is_whole dc_is_whole pm_is_whole cd_is_whole ct_is_whole : Value}
    {kV_is_whole : Value}
    (a_is_whole : PySem.W.nsIn K mainGlobals "is_whole" = some (some (.ref x_is_whole)))
    (l_is_whole : K.lookup x_is_whole = some ⟨oc_is_whole, od_is_whole, .func (PySem.W.fnOf "is_whole" "is_whole" (defArgs s_is_whole) (defBody s_is_whole) (defScope s_is_whole) .none kV_is_whole dc_is_whole pm_is_whole an_is_whole cd_is_whole ct_is_whole), sl_is_whole⟩)
    (c_is_whole : PySem.W.codeIn K cd_is_whole "is_whole" = true)
    (k_is_whole : PySem.W.keepIn K (.ref x_is_whole) = true)
    {x_check_offset : Addr} {od_check_offset an_check_offset : Option Addr} {sl_check_offset : Array (Option Value)} {oc_check_offset dc_check_offset pm_check_offset cd_check_offset ct_check_offset : Value}
    {kV_check_offset : Value}
    (a_check_offset : PySem.W.nsIn K mainGlobals "check_offset" = some (some (.ref x_check_offset)))
    (l_check_offset : K.lookup x_check_offset = some ⟨oc_check_offset, od_check_offset, .func (PySem.W.fnOf "check_offset" "check_offset" (defArgs s_check_offset) (defBody s_check_offset) (defScope s_check_offset) .none kV_check_offset dc_check_offset pm_check_offset an_check_offset cd_check_offset ct_check_offset), sl_check_offset⟩)
    (c_check_offset : PySem.W.codeIn K cd_check_offset "check_offset" = true)
    (k_check_offset : PySem.W.keepIn K (.ref x_check_offset) = true)
    {x_init : Addr} {od_init an_init : Option Addr} {sl_init : Array (Option Value)} {oc_init dc_init pm_init cd_init ct_init : Value}
    {kV_init : Value}
    {xT xE : Addr} {ocT : Value} {odT : Option Addr} {nT : Nat} {slT : Array (Option Value)} {odE : Option Addr} {nE : Nat} {slE : Array (Option Value)}
    (a_init : PySem.W.findIn K (.ref xC) "__init__" = some (some (.ref x_init)))
    (i_init : PySem.W.isFn K (.ref x_init) = true)
    (l_init : K.lookup x_init = some ⟨oc_init, od_init, .func (PySem.W.fnOf "__init__" "Strokes.__init__" (defArgs s_init) (defBody s_init) (defScope s_init) (.ref xT) kV_init dc_init pm_init an_init cd_init ct_init), sl_init⟩)
    (c_init : PySem.W.codeIn K cd_init "Strokes.__init__" = true)
    (k_init : PySem.W.keepIn K (.ref x_init) = true)
    (e_init : K.lookup xT = some ⟨ocT, odT, .seq #[.ref xE] nT, slT⟩)
    (e2_init : K.lookup xE = some ⟨.type "tuple", odE, .seq #[] nE, slE⟩)
    {x_iter : Addr} {od_iter an_iter : Option Addr} {sl_iter : Array (Option Value)} {oc_iter dc_iter pm_iter cd_iter ct_iter : Value}
    {kV_iter : Value}
    (a_iter : PySem.W.findIn K (.ref xC) "__iter__" = some (some (.ref x_iter)))
    (i_iter : PySem.W.isFn K (.ref x_iter) = true)
    (l_iter : K.lookup x_iter = some ⟨oc_iter, od_iter, .func (PySem.W.fnOf "__iter__" "Strokes.__iter__" (defArgs s_iter) (defBody s_iter) (defScope s_iter) .none kV_iter dc_iter pm_iter an_iter cd_iter ct_iter), sl_iter⟩)
    (c_iter : PySem.W.codeIn K cd_iter "Strokes.__iter__" = true)
    (k_iter : PySem.W.keepIn K (.ref x_iter) = true)
    {x_len : Addr} {od_len an_len : Option Addr} {sl_len : Array (Option Value)} {oc_len dc_len pm_len cd_len ct_len : Value}
    {kV_len : Value}
    (a_len : PySem.W.findIn K (.ref xC) "__len__" = some (some (.ref x_len)))
    (i_len : PySem.W.isFn K (.ref x_len) = true)
    (l_len : K.lookup x_len = some ⟨oc_len, od_len, .func (PySem.W.fnOf "__len__" "Strokes.__len__" (defArgs s_len) (defBody s_len) (defScope s_len) .none kV_len dc_len pm_len an_len cd_len ct_len), sl_len⟩)
    (c_len : PySem.W.codeIn K cd_len "Strokes.__len__" = true)
    (k_len : PySem.W.keepIn K (.ref x_len) = true)
    {x_contains : Addr} {od_contains an_contains : Option Addr} {sl_contains : Array (Option Value)} {oc_contains dc_contains pm_contains cd_contains ct_contains : Value}
    {kV_contains : Value}
    (a_contains : PySem.W.findIn K (.ref xC) "__contains__" = some (some (.ref x_contains)))
    (i_contains : PySem.W.isFn K (.ref x_contains) = true)
    (l_contains : K.lookup x_contains = some ⟨oc_contains, od_contains, .func (PySem.W.fnOf "__contains__" "Strokes.__contains__" (defArgs s_contains) (defBody s_contains) (defScope s_contains) .none kV_contains dc_contains pm_contains an_contains cd_contains ct_contains), sl_contains⟩)
    (c_contains : PySem.W.codeIn K cd_contains "Strokes.__contains__" = true)
    (k_contains : PySem.W.keepIn K (.ref x_contains) = true)
    {x_sub : Addr} {od_sub an_sub : Option Addr} {sl_sub : Array (Option Value)} {oc_sub dc_sub pm_sub cd_sub ct_sub : Value}
    {kV_sub : Value}
    (a_sub : PySem.W.findIn K (.ref xC) "__sub__" = some (some (.ref x_sub)))
    (i_sub : PySem.W.isFn K (.ref x_sub) = true)
    (l_sub : K.lookup x_sub = some ⟨oc_sub, od_sub, .func (PySem.W.fnOf "__sub__" "Strokes.__sub__" (defArgs s_sub) (defBody s_sub) (defScope s_sub) .none kV_sub dc_sub pm_sub an_sub cd_sub ct_sub), sl_sub⟩)
    (c_sub : PySem.W.codeIn K cd_sub "Strokes.__sub__" = true)
    (k_sub : PySem.W.keepIn K (.ref x_sub) = true)
    {x_lowest : Addr} {od_lowest an_lowest : Option Addr} {sl_lowest : Array (Option Value)} {oc_lowest dc_lowest pm_lowest cd_lowest ct_lowest : Value}
    {kV_lowest : Value}
    {y_lowest : Addr} {rs_lowest : List Value}
    (a_lowest : PySem.W.findIn K (.ref xC) "lowest" = some (some (.ref y_lowest)))
    (g_lowest : PySem.W.specialIn K (.ref y_lowest) "__get__" = some (some (.builtin "property.__get__")))
    (t_lowest : PySem.W.takesIn K (.ref y_lowest) = some true)
    (r_lowest : PySem.W.recIn K y_lowest "property" = some (.ref x_lowest :: rs_lowest))
    (l_lowest : K.lookup x_lowest = some ⟨oc_lowest, od_lowest, .func (PySem.W.fnOf "lowest" "Strokes.lowest" (defArgs s_lowest) (defBody s_lowest) (defScope s_lowest) .none kV_lowest dc_lowest pm_lowest an_lowest cd_lowest ct_lowest), sl_lowest⟩)
    (c_lowest : PySem.W.codeIn K cd_lowest "Strokes.lowest" = true)
    (k_lowest : PySem.W.keepIn K (.ref x_lowest) = true)
    {x_swithin : Addr} {od_swithin an_swithin : Option Addr} {sl_swithin : Array (Option Value)} {oc_swithin dc_swithin pm_swithin cd_swithin ct_swithin : Value}
    {kV_swithin : Value}
    (a_swithin : PySem.W.findIn K (.ref xC) "within" = some (some (.ref x_swithin)))
    (i_swithin : PySem.W.isFn K (.ref x_swithin) = true)
    (l_swithin : K.lookup x_swithin = some ⟨oc_swithin, od_swithin, .func (PySem.W.fnOf "within" "Strokes.within" (defArgs s_swithin) (defBody s_swithin) (defScope s_swithin) .none kV_swithin dc_swithin pm_swithin an_swithin cd_swithin ct_swithin), sl_swithin⟩)
    (c_swithin : PySem.W.codeIn K cd_swithin "Strokes.within" = true)
    (k_swithin : PySem.W.keepIn K (.ref x_swithin) = true)
    {x_cut : Addr} {od_cut an_cut : Option Addr} {sl_cut : Array (Option Value)} {oc_cut dc_cut pm_cut cd_cut ct_cut : Value}
    {kV_cut : Value}
    (a_cut : PySem.W.findIn K (.ref xC) "cut" = some (some (.ref x_cut)))
    (i_cut : PySem.W.isFn K (.ref x_cut) = true)
    (l_cut : K.lookup x_cut = some ⟨oc_cut, od_cut, .func (PySem.W.fnOf "cut" "Strokes.cut" (defArgs s_cut) (defBody s_cut) (defScope s_cut) .none kV_cut dc_cut pm_cut an_cut cd_cut ct_cut), sl_cut⟩)
    (c_cut : PySem.W.codeIn K cd_cut "Strokes.cut" = true)
    (k_cut : PySem.W.keepIn K (.ref x_cut) = true)
    {x_is_number : Addr} {od_is_number an_is_number : Option Addr} {sl_is_number : Array (Option Value)} {oc_is_number dc_is_number pm_is_number cd_is_number ct_is_number : Value}
    {kV_is_number : Value}
    (a_is_number : PySem.W.nsIn K mainGlobals "is_number" = some (some (.ref x_is_number)))
    (l_is_number : K.lookup x_is_number = some ⟨oc_is_number, od_is_number, .func (PySem.W.fnOf "is_number" "is_number" (defArgs s_is_number) (defBody s_is_number) (defScope s_is_number) .none kV_is_number dc_is_number pm_is_number an_is_number cd_is_number ct_is_number), sl_is_number⟩)
    (c_is_number : PySem.W.codeIn K cd_is_number "is_number" = true)
    (k_is_number : PySem.W.keepIn K (.ref x_is_number) = true)
    {x_check_number : Addr} {od_check_number an_check_number : Option Addr} {sl_check_number : Array (Option Value)} {oc_check_number dc_check_number pm_check_number cd_check_number ct_check_number : Value}
    {kV_check_number : Value}
    (a_check_number : PySem.W.nsIn K mainGlobals "check_number" = some (some (.ref x_check_number)))
    (l_check_number : K.lookup x_check_number = some ⟨oc_check_number, od_check_number, .func (PySem.W.fnOf "check_number" "check_number" (defArgs s_check_number) (defBody s_check_number) (defScope s_check_number) .none kV_check_number dc_check_number pm_check_number an_check_number cd_check_number ct_check_number), sl_check_number⟩)
    (c_check_number : PySem.W.codeIn K cd_check_number "check_number" = true)
    (k_check_number : PySem.W.keepIn K (.ref x_check_number) = true)
    {x_blocks : Addr} {od_blocks an_blocks : Option Addr} {sl_blocks : Array (Option Value)} {oc_blocks dc_blocks pm_blocks cd_blocks ct_blocks : Value}
    {kV_blocks : Value}
    (a_blocks : PySem.W.nsIn K mainGlobals "blocks" = some (some (.ref x_blocks)))
    (l_blocks : K.lookup x_blocks = some ⟨oc_blocks, od_blocks, .func (PySem.W.fnOf "blocks" "blocks" (defArgs s_blocks) (defBody s_blocks) (defScope s_blocks) .none kV_blocks dc_blocks pm_blocks an_blocks cd_blocks ct_blocks), sl_blocks⟩)
    (c_blocks : PySem.W.codeIn K cd_blocks "blocks" = true)
    (k_blocks : PySem.W.keepIn K (.ref x_blocks) = true)
    {x_row_of : Addr} {od_row_of an_row_of : Option Addr} {sl_row_of : Array (Option Value)} {oc_row_of dc_row_of pm_row_of cd_row_of ct_row_of : Value}
    {kV_row_of : Value}
    (a_row_of : PySem.W.nsIn K mainGlobals "row_of" = some (some (.ref x_row_of)))
    (l_row_of : K.lookup x_row_of = some ⟨oc_row_of, od_row_of, .func (PySem.W.fnOf "row_of" "row_of" (defArgs s_row_of) (defBody s_row_of) (defScope s_row_of) .none kV_row_of dc_row_of pm_row_of an_row_of cd_row_of ct_row_of), sl_row_of⟩)
    (c_row_of : PySem.W.codeIn K cd_row_of "row_of" = true)
    (k_row_of : PySem.W.keepIn K (.ref x_row_of) = true)
    {x_length_of : Addr} {od_length_of an_length_of : Option Addr} {sl_length_of : Array (Option Value)} {oc_length_of dc_length_of pm_length_of cd_length_of ct_length_of : Value}
    {kV_length_of : Value}
    (a_length_of : PySem.W.nsIn K mainGlobals "length_of" = some (some (.ref x_length_of)))
    (l_length_of : K.lookup x_length_of = some ⟨oc_length_of, od_length_of, .func (PySem.W.fnOf "length_of" "length_of" (defArgs s_length_of) (defBody s_length_of) (defScope s_length_of) .none kV_length_of dc_length_of pm_length_of an_length_of cd_length_of ct_length_of), sl_length_of⟩)
    (c_length_of : PySem.W.codeIn K cd_length_of "length_of" = true)
    (k_length_of : PySem.W.keepIn K (.ref x_length_of) = true)
    {x_strokes_of : Addr} {od_strokes_of an_strokes_of : Option Addr} {sl_strokes_of : Array (Option Value)} {oc_strokes_of dc_strokes_of pm_strokes_of cd_strokes_of ct_strokes_of : Value}
    {kV_strokes_of : Value}
    (a_strokes_of : PySem.W.nsIn K mainGlobals "strokes_of" = some (some (.ref x_strokes_of)))
    (l_strokes_of : K.lookup x_strokes_of = some ⟨oc_strokes_of, od_strokes_of, .func (PySem.W.fnOf "strokes_of" "strokes_of" (defArgs s_strokes_of) (defBody s_strokes_of) (defScope s_strokes_of) .none kV_strokes_of dc_strokes_of pm_strokes_of an_strokes_of cd_strokes_of ct_strokes_of), sl_strokes_of⟩)
    (c_strokes_of : PySem.W.codeIn K cd_strokes_of "strokes_of" = true)
    (k_strokes_of : PySem.W.keepIn K (.ref x_strokes_of) = true)
    {x_step_back : Addr} {od_step_back an_step_back : Option Addr} {sl_step_back : Array (Option Value)} {oc_step_back dc_step_back pm_step_back cd_step_back ct_step_back : Value}
    {kV_step_back : Value}
    (a_step_back : PySem.W.nsIn K mainGlobals "step_back" = some (some (.ref x_step_back)))
    (l_step_back : K.lookup x_step_back = some ⟨oc_step_back, od_step_back, .func (PySem.W.fnOf "step_back" "step_back" (defArgs s_step_back) (defBody s_step_back) (defScope s_step_back) .none kV_step_back dc_step_back pm_step_back an_step_back cd_step_back ct_step_back), sl_step_back⟩)
    (c_step_back : PySem.W.codeIn K cd_step_back "step_back" = true)
    (k_step_back : PySem.W.keepIn K (.ref x_step_back) = true)
    {x_head_of : Addr} {od_head_of an_head_of : Option Addr} {sl_head_of : Array (Option Value)} {oc_head_of dc_head_of pm_head_of cd_head_of ct_head_of : Value}
    {kV_head_of : Value}
    (a_head_of : PySem.W.nsIn K mainGlobals "head_of" = some (some (.ref x_head_of)))
    (l_head_of : K.lookup x_head_of = some ⟨oc_head_of, od_head_of, .func (PySem.W.fnOf "head_of" "head_of" (defArgs s_head_of) (defBody s_head_of) (defScope s_head_of) .none kV_head_of dc_head_of pm_head_of an_head_of cd_head_of ct_head_of), sl_head_of⟩)
    (c_head_of : PySem.W.codeIn K cd_head_of "head_of" = true)
    (k_head_of : PySem.W.keepIn K (.ref x_head_of) = true)
    {x_train_strokes : Addr} {od_train_strokes an_train_strokes : Option Addr} {sl_train_strokes : Array (Option Value)} {oc_train_strokes dc_train_strokes pm_train_strokes cd_train_strokes ct_train_strokes : Value}
    {kV_train_strokes : Value}
    (a_train_strokes : PySem.W.nsIn K mainGlobals "train_strokes" = some (some (.ref x_train_strokes)))
    (l_train_strokes : K.lookup x_train_strokes = some ⟨oc_train_strokes, od_train_strokes, .func (PySem.W.fnOf "train_strokes" "train_strokes" (defArgs s_train_strokes) (defBody s_train_strokes) (defScope s_train_strokes) .none kV_train_strokes dc_train_strokes pm_train_strokes an_train_strokes cd_train_strokes ct_train_strokes), sl_train_strokes⟩)
    (c_train_strokes : PySem.W.codeIn K cd_train_strokes "train_strokes" = true)
    (k_train_strokes : PySem.W.keepIn K (.ref x_train_strokes) = true)
    {x_linit : Addr} {od_linit an_linit : Option Addr} {sl_linit : Array (Option Value)} {oc_linit dc_linit pm_linit cd_linit ct_linit : Value}
    {kV_linit : Value}
    (a_linit : PySem.W.findIn K (.ref xLa) "__init__" = some (some (.ref x_linit)))
    (i_linit : PySem.W.isFn K (.ref x_linit) = true)
    (l_linit : K.lookup x_linit = some ⟨oc_linit, od_linit, .func (PySem.W.fnOf "__init__" "Lay.__init__" (defArgs s_linit) (defBody s_linit) (defScope s_linit) .none kV_linit dc_linit pm_linit an_linit cd_linit ct_linit), sl_linit⟩)
    (c_linit : PySem.W.codeIn K cd_linit "Lay.__init__" = true)
    (k_linit : PySem.W.keepIn K (.ref x_linit) = true)
    {x_facts : Addr} {od_facts an_facts : Option Addr} {sl_facts : Array (Option Value)} {oc_facts dc_facts pm_facts cd_facts ct_facts : Value}
    {kV_facts : Value}
    (a_facts : PySem.W.findIn K (.ref xLa) "facts" = some (some (.ref x_facts)))
    (i_facts : PySem.W.isFn K (.ref x_facts) = true)
    (l_facts : K.lookup x_facts = some ⟨oc_facts, od_facts, .func (PySem.W.fnOf "facts" "Lay.facts" (defArgs s_facts) (defBody s_facts) (defScope s_facts) .none kV_facts dc_facts pm_facts an_facts cd_facts ct_facts), sl_facts⟩)
    (c_facts : PySem.W.codeIn K cd_facts "Lay.facts" = true)
    (k_facts : PySem.W.keepIn K (.ref x_facts) = true)
    {x_seq : Addr} {od_seq an_seq : Option Addr} {sl_seq : Array (Option Value)} {oc_seq dc_seq pm_seq cd_seq ct_seq : Value}
    {kV_seq : Value}
    (a_seq : PySem.W.findIn K (.ref xC) "__eq__" = some (some (.ref x_seq)))
    (i_seq : PySem.W.isFn K (.ref x_seq) = true)
    (l_seq : K.lookup x_seq = some ⟨oc_seq, od_seq, .func (PySem.W.fnOf "__eq__" "Strokes.__eq__" (defArgs s_seq) (defBody s_seq) (defScope s_seq) .none kV_seq dc_seq pm_seq an_seq cd_seq ct_seq), sl_seq⟩)
    (c_seq : PySem.W.codeIn K cd_seq "Strokes.__eq__" = true)
    (k_seq : PySem.W.keepIn K (.ref x_seq) = true)
    {x_leq : Addr} {od_leq an_leq : Option Addr} {sl_leq : Array (Option Value)} {oc_leq dc_leq pm_leq cd_leq ct_leq : Value}
    {kV_leq : Value}
    (a_leq : PySem.W.findIn K (.ref xLa) "__eq__" = some (some (.ref x_leq)))
    (i_leq : PySem.W.isFn K (.ref x_leq) = true)
    (l_leq : K.lookup x_leq = some ⟨oc_leq, od_leq, .func (PySem.W.fnOf "__eq__" "Lay.__eq__" (defArgs s_leq) (defBody s_leq) (defScope s_leq) .none kV_leq dc_leq pm_leq an_leq cd_leq ct_leq), sl_leq⟩)
    (c_leq : PySem.W.codeIn K cd_leq "Lay.__eq__" = true)
    (k_leq : PySem.W.keepIn K (.ref x_leq) = true)
    {x_tinit : Addr} {od_tinit an_tinit : Option Addr} {sl_tinit : Array (Option Value)} {oc_tinit dc_tinit pm_tinit cd_tinit ct_tinit : Value}
    {kV_tinit : Value}
    (a_tinit : PySem.W.findIn K (.ref xTr) "__init__" = some (some (.ref x_tinit)))
    (i_tinit : PySem.W.isFn K (.ref x_tinit) = true)
    (l_tinit : K.lookup x_tinit = some ⟨oc_tinit, od_tinit, .func (PySem.W.fnOf "__init__" "Train.__init__" (defArgs s_tinit) (defBody s_tinit) (defScope s_tinit) .none kV_tinit dc_tinit pm_tinit an_tinit cd_tinit ct_tinit), sl_tinit⟩)
    (c_tinit : PySem.W.codeIn K cd_tinit "Train.__init__" = true)
    (k_tinit : PySem.W.keepIn K (.ref x_tinit) = true)
    {x_has_foreign : Addr} {od_has_foreign an_has_foreign : Option Addr} {sl_has_foreign : Array (Option Value)} {oc_has_foreign dc_has_foreign pm_has_foreign cd_has_foreign ct_has_foreign : Value}
    {kV_has_foreign : Value}
    (a_has_foreign : PySem.W.findIn K (.ref xTr) "has_foreign" = some (some (.ref x_has_foreign)))
    (i_has_foreign : PySem.W.isFn K (.ref x_has_foreign) = true)
    (l_has_foreign : K.lookup x_has_foreign = some ⟨oc_has_foreign, od_has_foreign, .func (PySem.W.fnOf "has_foreign" "Train.has_foreign" (defArgs s_has_foreign) (defBody s_has_foreign) (defScope s_has_foreign) .none kV_has_foreign dc_has_foreign pm_has_foreign an_has_foreign cd_has_foreign ct_has_foreign), sl_has_foreign⟩)
    (c_has_foreign : PySem.W.codeIn K cd_has_foreign "Train.has_foreign" = true)
    (k_has_foreign : PySem.W.keepIn K (.ref x_has_foreign) = true)
    {x_good_rounds : Addr} {od_good_rounds an_good_rounds : Option Addr} {sl_good_rounds : Array (Option Value)} {oc_good_rounds dc_good_rounds pm_good_rounds cd_good_rounds ct_good_rounds : Value}
    {kV_good_rounds : Value}
    (a_good_rounds : PySem.W.findIn K (.ref xTr) "good_rounds" = some (some (.ref x_good_rounds)))
    (i_good_rounds : PySem.W.isFn K (.ref x_good_rounds) = true)
    (l_good_rounds : K.lookup x_good_rounds = some ⟨oc_good_rounds, od_good_rounds, .func (PySem.W.fnOf "good_rounds" "Train.good_rounds" (defArgs s_good_rounds) (defBody s_good_rounds) (defScope s_good_rounds) .none kV_good_rounds dc_good_rounds pm_good_rounds an_good_rounds cd_good_rounds ct_good_rounds), sl_good_rounds⟩)
    (c_good_rounds : PySem.W.codeIn K cd_good_rounds "Train.good_rounds" = true)
    (k_good_rounds : PySem.W.keepIn K (.ref x_good_rounds) = true)
    {x_lays_from : Addr} {od_lays_from an_lays_from : Option Addr} {sl_lays_from : Array (Option Value)} {oc_lays_from dc_lays_from pm_lays_from cd_lays_from ct_lays_from : Value}
    {kV_lays_from : Value}
    (a_lays_from : PySem.W.findIn K (.ref xTr) "lays_from" = some (some (.ref x_lays_from)))
    (i_lays_from : PySem.W.isFn K (.ref x_lays_from) = true)
    (l_lays_from : K.lookup x_lays_from = some ⟨oc_lays_from, od_lays_from, .func (PySem.W.fnOf "lays_from" "Train.lays_from" (defArgs s_lays_from) (defBody s_lays_from) (defScope s_lays_from) .none kV_lays_from dc_lays_from pm_lays_from an_lays_from cd_lays_from ct_lays_from), sl_lays_from⟩)
    (c_lays_from : PySem.W.codeIn K cd_lays_from "Train.lays_from" = true)
    (k_lays_from : PySem.W.keepIn K (.ref x_lays_from) = true)
    {x_plain_lays : Addr} {od_plain_lays an_plain_lays : Option Addr} {sl_plain_lays : Array (Option Value)} {oc_plain_lays dc_plain_lays pm_plain_lays cd_plain_lays ct_plain_lays : Value}
    {kV_plain_lays : Value}
    (a_plain_lays : PySem.W.nsIn K mainGlobals "plain_lays" = some (some (.ref x_plain_lays)))
    (l_plain_lays : K.lookup x_plain_lays = some ⟨oc_plain_lays, od_plain_lays, .func (PySem.W.fnOf "plain_lays" "plain_lays" (defArgs s_plain_lays) (defBody s_plain_lays) (defScope s_plain_lays) .none kV_plain_lays dc_plain_lays pm_plain_lays an_plain_lays cd_plain_lays ct_plain_lays), sl_plain_lays⟩)
    (c_plain_lays : PySem.W.codeIn K cd_plain_lays "plain_lays" = true)
    (k_plain_lays : PySem.W.keepIn K (.ref x_plain_lays) = true)
    {x_shy_lays : Addr} {od_shy_lays an_shy_lays : Option Addr} {sl_shy_lays : Array (Option Value)} {oc_shy_lays dc_shy_lays pm_shy_lays cd_shy_lays ct_shy_lays : Value}
    {kV_shy_lays : Value}
    (a_shy_lays : PySem.W.nsIn K mainGlobals "shy_lays" = some (some (.ref x_shy_lays)))
    (l_shy_lays : K.lookup x_shy_lays = some ⟨oc_shy_lays, od_shy_lays, .func (PySem.W.fnOf "shy_lays" "shy_lays" (defArgs s_shy_lays) (defBody s_shy_lays) (defScope s_shy_lays) .none kV_shy_lays dc_shy_lays pm_shy_lays an_shy_lays cd_shy_lays ct_shy_lays), sl_shy_lays⟩)
    (c_shy_lays : PySem.W.codeIn K cd_shy_lays "shy_lays" = true)
    (k_shy_lays : PySem.W.keepIn K (.ref x_shy_lays) = true)
    {x_lays : Addr} {od_lays an_lays : Option Addr} {sl_lays : Array (Option Value)} {oc_lays dc_lays pm_lays cd_lays ct_lays : Value}
    {kV_lays : Value}
    (a_lays : PySem.W.nsIn K mainGlobals "lays" = some (some (.ref x_lays)))
    (l_lays : K.lookup x_lays = some ⟨oc_lays, od_lays, .func (PySem.W.fnOf "lays" "lays" (defArgs s_lays) (defBody s_lays) (defScope s_lays) .none kV_lays dc_lays pm_lays an_lays cd_lays ct_lays), sl_lays⟩)
    (c_lays : PySem.W.codeIn K cd_lays "lays" = true)
    (k_lays : PySem.W.keepIn K (.ref x_lays) = true)
    {x_are_facts_of : Addr} {od_are_facts_of an_are_facts_of : Option Addr} {sl_are_facts_of : Array (Option Value)} {oc_are_facts_of dc_are_facts_of pm_are_facts_of cd_are_facts_of ct_are_facts_of : Value}
    {kV_are_facts_of : Value}
    (a_are_facts_of : PySem.W.nsIn K mainGlobals "are_facts_of" = some (some (.ref x_are_facts_of)))
    (l_are_facts_of : K.lookup x_are_facts_of = some ⟨oc_are_facts_of, od_are_facts_of, .func (PySem.W.fnOf "are_facts_of" "are_facts_of" (defArgs s_are_facts_of) (defBody s_are_facts_of) (defScope s_are_facts_of) .none kV_are_facts_of dc_are_facts_of pm_are_facts_of an_are_facts_of cd_are_facts_of ct_are_facts_of), sl_are_facts_of⟩)
    (c_are_facts_of : PySem.W.codeIn K cd_are_facts_of "are_facts_of" = true)
    (k_are_facts_of : PySem.W.keepIn K (.ref x_are_facts_of) = true)
    {x_clash : Addr} {od_clash an_clash : Option Addr} {sl_clash : Array (Option Value)} {oc_clash dc_clash pm_clash cd_clash ct_clash : Value}
    {kV_clash : Value}
    (a_clash : PySem.W.nsIn K mainGlobals "clash" = some (some (.ref x_clash)))
    (l_clash : K.lookup x_clash = some ⟨oc_clash, od_clash, .func (PySem.W.fnOf "clash" "clash" (defArgs s_clash) (defBody s_clash) (defScope s_clash) .none kV_clash dc_clash pm_clash an_clash cd_clash ct_clash), sl_clash⟩)
    (c_clash : PySem.W.codeIn K cd_clash "clash" = true)
    (k_clash : PySem.W.keepIn K (.ref x_clash) = true)
    {x_lay_of : Addr} {od_lay_of an_lay_of : Option Addr} {sl_lay_of : Array (Option Value)} {oc_lay_of dc_lay_of pm_lay_of cd_lay_of ct_lay_of : Value}
    {kV_lay_of : Value}
    (a_lay_of : PySem.W.nsIn K mainGlobals "lay_of" = some (some (.ref x_lay_of)))
    (l_lay_of : K.lookup x_lay_of = some ⟨oc_lay_of, od_lay_of, .func (PySem.W.fnOf "lay_of" "lay_of" (defArgs s_lay_of) (defBody s_lay_of) (defScope s_lay_of) .none kV_lay_of dc_lay_of pm_lay_of an_lay_of cd_lay_of ct_lay_of), sl_lay_of⟩)
    (c_lay_of : PySem.W.codeIn K cd_lay_of "lay_of" = true)
    (k_lay_of : PySem.W.keepIn K (.ref x_lay_of) = true)
    {x_bag : Addr} {od_bag an_bag : Option Addr} {sl_bag : Array (Option Value)} {oc_bag dc_bag pm_bag cd_bag ct_bag : Value}
    {kV_bag : Value}
    (a_bag : PySem.W.nsIn K mainGlobals "_law_bag" = some (some (.ref x_bag)))
    (l_bag : K.lookup x_bag = some ⟨oc_bag, od_bag, .func (PySem.W.fnOf "_law_bag" "_law_bag" (defArgs s_bag) (defBody s_bag) (defScope s_bag) .none kV_bag dc_bag pm_bag an_bag cd_bag ct_bag), sl_bag⟩)
    (c_bag : PySem.W.codeIn K cd_bag "_law_bag" = true)
    (k_bag : PySem.W.keepIn K (.ref x_bag) = true)
    {x_draw : Addr} {od_draw an_draw : Option Addr} {sl_draw : Array (Option Value)} {oc_draw dc_draw pm_draw cd_draw ct_draw : Value}
    {kV_draw : Value}
    (a_draw : PySem.W.nsIn K mainGlobals "_law_draw" = some (some (.ref x_draw)))
    (l_draw : K.lookup x_draw = some ⟨oc_draw, od_draw, .func (PySem.W.fnOf "_law_draw" "_law_draw" (defArgs s_draw) (defBody s_draw) (defScope s_draw) .none kV_draw dc_draw pm_draw an_draw cd_draw ct_draw), sl_draw⟩)
    (c_draw : PySem.W.codeIn K cd_draw "_law_draw" = true)
    (k_draw : PySem.W.keepIn K (.ref x_draw) = true)
    {x_number : Addr} {od_number an_number : Option Addr} {sl_number : Array (Option Value)} {oc_number dc_number pm_number cd_number ct_number : Value}
    {kV_number : Value}
    (a_number : PySem.W.nsIn K mainGlobals "_law_number" = some (some (.ref x_number)))
    (l_number : K.lookup x_number = some ⟨oc_number, od_number, .func (PySem.W.fnOf "_law_number" "_law_number" (defArgs s_number) (defBody s_number) (defScope s_number) .none kV_number dc_number pm_number an_number cd_number ct_number), sl_number⟩)
    (c_number : PySem.W.codeIn K cd_number "_law_number" = true)
    (k_number : PySem.W.keepIn K (.ref x_number) = true)
    {x_row : Addr} {od_row an_row : Option Addr} {sl_row : Array (Option Value)} {oc_row dc_row pm_row cd_row ct_row : Value}
    {kV_row : Value}
    (a_row : PySem.W.nsIn K mainGlobals "_law_row" = some (some (.ref x_row)))
    (l_row : K.lookup x_row = some ⟨oc_row, od_row, .func (PySem.W.fnOf "_law_row" "_law_row" (defArgs s_row) (defBody s_row) (defScope s_row) .none kV_row dc_row pm_row an_row cd_row ct_row), sl_row⟩)
    (c_row : PySem.W.codeIn K cd_row "_law_row" = true)
    (k_row : PySem.W.keepIn K (.ref x_row) = true)
    {x_says : Addr} {od_says an_says : Option Addr} {sl_says : Array (Option Value)} {oc_says dc_says pm_says cd_says ct_says : Value}
    {kV_says : Value}
    (a_says : PySem.W.nsIn K mainGlobals "_law_says" = some (some (.ref x_says)))
    (l_says : K.lookup x_says = some ⟨oc_says, od_says, .func (PySem.W.fnOf "_law_says" "_law_says" (defArgs s_says) (defBody s_says) (defScope s_says) .none kV_says dc_says pm_says an_says cd_says ct_says), sl_says⟩)
    (c_says : PySem.W.codeIn K cd_says "_law_says" = true)
    (k_says : PySem.W.keepIn K (.ref x_says) = true)
    {x_digits : Addr} {od_digits an_digits : Option Addr} {sl_digits : Array (Option Value)} {oc_digits dc_digits pm_digits cd_digits ct_digits : Value}
    {kV_digits : Value}
    (a_digits : PySem.W.nsIn K mainGlobals "_law_digits" = some (some (.ref x_digits)))
    (l_digits : K.lookup x_digits = some ⟨oc_digits, od_digits, .func (PySem.W.fnOf "_law_digits" "_law_digits" (defArgs s_digits) (defBody s_digits) (defScope s_digits) .none kV_digits dc_digits pm_digits an_digits cd_digits ct_digits), sl_digits⟩)
    (c_digits : PySem.W.codeIn K cd_digits "_law_digits" = true)
    (k_digits : PySem.W.keepIn K (.ref x_digits) = true)
    {x_center : Addr} {od_center an_center : Option Addr} {sl_center : Array (Option Value)} {oc_center dc_center pm_center cd_center ct_center : Value}
    {kV_center : Value}
    (a_center : PySem.W.nsIn K mainGlobals "_law_center" = some (some (.ref x_center)))
    (l_center : K.lookup x_center = some ⟨oc_center, od_center, .func (PySem.W.fnOf "_law_center" "_law_center" (defArgs s_center) (defBody s_center) (defScope s_center) .none kV_center dc_center pm_center an_center cd_center ct_center), sl_center⟩)
    (c_center : PySem.W.codeIn K cd_center "_law_center" = true)
    (k_center : PySem.W.keepIn K (.ref x_center) = true)
    {x_beside : Addr} {od_beside an_beside : Option Addr} {sl_beside : Array (Option Value)} {oc_beside dc_beside pm_beside cd_beside ct_beside : Value}
    {kV_beside : Value}
    (a_beside : PySem.W.nsIn K mainGlobals "_law_beside" = some (some (.ref x_beside)))
    (l_beside : K.lookup x_beside = some ⟨oc_beside, od_beside, .func (PySem.W.fnOf "_law_beside" "_law_beside" (defArgs s_beside) (defBody s_beside) (defScope s_beside) .none kV_beside dc_beside pm_beside an_beside cd_beside ct_beside), sl_beside⟩)
    (c_beside : PySem.W.codeIn K cd_beside "_law_beside" = true)
    (k_beside : PySem.W.keepIn K (.ref x_beside) = true)
    {x_boxes : Addr} {od_boxes an_boxes : Option Addr} {sl_boxes : Array (Option Value)} {oc_boxes dc_boxes pm_boxes cd_boxes ct_boxes : Value}
    {kV_boxes : Value}
    (a_boxes : PySem.W.nsIn K mainGlobals "_law_boxes" = some (some (.ref x_boxes)))
    (l_boxes : K.lookup x_boxes = some ⟨oc_boxes, od_boxes, .func (PySem.W.fnOf "_law_boxes" "_law_boxes" (defArgs s_boxes) (defBody s_boxes) (defScope s_boxes) .none kV_boxes dc_boxes pm_boxes an_boxes cd_boxes ct_boxes), sl_boxes⟩)
    (c_boxes : PySem.W.codeIn K cd_boxes "_law_boxes" = true)
    (k_boxes : PySem.W.keepIn K (.ref x_boxes) = true)
    {x_offsets : Addr} {od_offsets an_offsets : Option Addr} {sl_offsets : Array (Option Value)} {oc_offsets dc_offsets pm_offsets cd_offsets ct_offsets : Value}
    {kV_offsets : Value}
    (a_offsets : PySem.W.nsIn K mainGlobals "_law_offsets" = some (some (.ref x_offsets)))
    (l_offsets : K.lookup x_offsets = some ⟨oc_offsets, od_offsets, .func (PySem.W.fnOf "_law_offsets" "_law_offsets" (defArgs s_offsets) (defBody s_offsets) (defScope s_offsets) .none kV_offsets dc_offsets pm_offsets an_offsets cd_offsets ct_offsets), sl_offsets⟩)
    (c_offsets : PySem.W.codeIn K cd_offsets "_law_offsets" = true)
    (k_offsets : PySem.W.keepIn K (.ref x_offsets) = true)
    {x_bent : Addr} {od_bent an_bent : Option Addr} {sl_bent : Array (Option Value)} {oc_bent dc_bent pm_bent cd_bent ct_bent : Value}
    {kV_bent : Value}
    (a_bent : PySem.W.nsIn K mainGlobals "_law_bent" = some (some (.ref x_bent)))
    (l_bent : K.lookup x_bent = some ⟨oc_bent, od_bent, .func (PySem.W.fnOf "_law_bent" "_law_bent" (defArgs s_bent) (defBody s_bent) (defScope s_bent) .none kV_bent dc_bent pm_bent an_bent cd_bent ct_bent), sl_bent⟩)
    (c_bent : PySem.W.codeIn K cd_bent "_law_bent" = true)
    (k_bent : PySem.W.keepIn K (.ref x_bent) = true)
    {x_tried : Addr} {od_tried an_tried : Option Addr} {sl_tried : Array (Option Value)} {oc_tried dc_tried pm_tried cd_tried ct_tried : Value}
    {kV_tried : Value}
    (a_tried : PySem.W.nsIn K mainGlobals "_law_tried" = some (some (.ref x_tried)))
    (l_tried : K.lookup x_tried = some ⟨oc_tried, od_tried, .func (PySem.W.fnOf "_law_tried" "_law_tried" (defArgs s_tried) (defBody s_tried) (defScope s_tried) .none kV_tried dc_tried pm_tried an_tried cd_tried ct_tried), sl_tried⟩)
    (c_tried : PySem.W.codeIn K cd_tried "_law_tried" = true)
    (k_tried : PySem.W.keepIn K (.ref x_tried) = true)
    {x_listed : Addr} {od_listed an_listed : Option Addr} {sl_listed : Array (Option Value)} {oc_listed dc_listed pm_listed cd_listed ct_listed : Value}
    {kV_listed : Value}
    (a_listed : PySem.W.nsIn K mainGlobals "_law_listed" = some (some (.ref x_listed)))
    (l_listed : K.lookup x_listed = some ⟨oc_listed, od_listed, .func (PySem.W.fnOf "_law_listed" "_law_listed" (defArgs s_listed) (defBody s_listed) (defScope s_listed) .none kV_listed dc_listed pm_listed an_listed cd_listed ct_listed), sl_listed⟩)
    (c_listed : PySem.W.codeIn K cd_listed "_law_listed" = true)
    (k_listed : PySem.W.keepIn K (.ref x_listed) = true)
    {x_known : Addr} {od_known an_known : Option Addr} {sl_known : Array (Option Value)} {oc_known dc_known pm_known cd_known ct_known : Value}
    {kV_known : Value}
    (a_known : PySem.W.nsIn K mainGlobals "_law_known" = some (some (.ref x_known)))
    (l_known : K.lookup x_known = some ⟨oc_known, od_known, .func (PySem.W.fnOf "_law_known" "_law_known" (defArgs s_known) (defBody s_known) (defScope s_known) .none kV_known dc_known pm_known an_known cd_known ct_known), sl_known⟩)
    (c_known : PySem.W.codeIn K cd_known "_law_known" = true)
    (k_known : PySem.W.keepIn K (.ref x_known) = true)
    {x_overlap : Addr} {od_overlap an_overlap : Option Addr} {sl_overlap : Array (Option Value)} {oc_overlap dc_overlap pm_overlap cd_overlap ct_overlap : Value}
    {kV_overlap : Value}
    (a_overlap : PySem.W.nsIn K mainGlobals "_law_overlap" = some (some (.ref x_overlap)))
    (l_overlap : K.lookup x_overlap = some ⟨oc_overlap, od_overlap, .func (PySem.W.fnOf "_law_overlap" "_law_overlap" (defArgs s_overlap) (defBody s_overlap) (defScope s_overlap) .none kV_overlap dc_overlap pm_overlap an_overlap cd_overlap ct_overlap), sl_overlap⟩)
    (c_overlap : PySem.W.codeIn K cd_overlap "_law_overlap" = true)
    (k_overlap : PySem.W.keepIn K (.ref x_overlap) = true)
    {x_wlays : Addr} {od_wlays an_wlays : Option Addr} {sl_wlays : Array (Option Value)} {oc_wlays dc_wlays pm_wlays cd_wlays ct_wlays : Value}
    {kV_wlays : Value}
    (a_wlays : PySem.W.nsIn K mainGlobals "_law_lays" = some (some (.ref x_wlays)))
    (l_wlays : K.lookup x_wlays = some ⟨oc_wlays, od_wlays, .func (PySem.W.fnOf "_law_lays" "_law_lays" (defArgs s_wlays) (defBody s_wlays) (defScope s_wlays) .none kV_wlays dc_wlays pm_wlays an_wlays cd_wlays ct_wlays), sl_wlays⟩)
    (c_wlays : PySem.W.codeIn K cd_wlays "_law_lays" = true)
    (k_wlays : PySem.W.keepIn K (.ref x_wlays) = true)
    {x_twins : Addr} {od_twins an_twins : Option Addr} {sl_twins : Array (Option Value)} {oc_twins dc_twins pm_twins cd_twins ct_twins : Value}
    {kV_twins : Value}
    (a_twins : PySem.W.nsIn K mainGlobals "_law_twins" = some (some (.ref x_twins)))
    (l_twins : K.lookup x_twins = some ⟨oc_twins, od_twins, .func (PySem.W.fnOf "_law_twins" "_law_twins" (defArgs s_twins) (defBody s_twins) (defScope s_twins) .none kV_twins dc_twins pm_twins an_twins cd_twins ct_twins), sl_twins⟩)
    (c_twins : PySem.W.codeIn K cd_twins "_law_twins" = true)
    (k_twins : PySem.W.keepIn K (.ref x_twins) = true)
    {x_law : Addr} {od_law an_law : Option Addr} {sl_law : Array (Option Value)} {oc_law dc_law pm_law cd_law ct_law : Value}
    {kV_law : Value}
    (a_law : PySem.W.nsIn K mainGlobals "law" = some (some (.ref x_law)))
    (l_law : K.lookup x_law = some ⟨oc_law, od_law, .func (PySem.W.fnOf "law" "law" (defArgs s_law) (defBody s_law) (defScope s_law) .none kV_law dc_law pm_law an_law cd_law ct_law), sl_law⟩)
    (c_law : PySem.W.codeIn K cd_law "law" = true)
    (k_law : PySem.W.keepIn K (.ref x_law) = true)
    (pg : PySem.W.plainGet K xC Str.empty = true)
    (hd : PySem.W.hasDictIn K xC = true)
    (po : PySem.W.plainOver K xC = true)
    (sa : PySem.W.findIn K (.ref xC) "__setattr__" = some (some (.builtin "object.__setattr__")))
    (mk : PySem.W.makesIn K xC = true)
    (kc : PySem.W.keepIn K (.ref xC) = true)
    (nO : PySem.W.findIn K (.ref xC) "offsets" = some none)
    (ica : PySem.W.findIn K (.ref xC) "__class__" = some (some (.builtin "object.__class__")))
    (icn : PySem.W.specialIn K (.builtin "object.__class__") "__get__" = some (some (.builtin "getset_descriptor.__get__")))
    (ict : PySem.W.takesIn K (.builtin "object.__class__") = some true)
    (icm : PySem.W.mroIn K xC (.type "object") = some true)
    (kS : PySem.W.kitOne K (.ref xC) (.ref xC) = some true)
    (pgW : PySem.W.plainGet K xW Str.empty = true)
    (hdW : PySem.W.hasDictIn K xW = true)
    (poW : PySem.W.plainOver K xW = true)
    (saW : PySem.W.findIn K (.ref xW) "__setattr__" = some (some (.builtin "object.__setattr__")))
    (mkW : PySem.W.makesIn K xW = true)
    (kcW : PySem.W.keepIn K (.ref xW) = true)
    (rdW : PySem.W.readsIn K xW (.type "type") = true)
    (gaW : PySem.W.specialIn K (.ref xW) "__getattribute__" = some (some (.builtin "type.__getattribute__")))
    (pgL : PySem.W.plainGet K xLa Str.empty = true)
    (hdL : PySem.W.hasDictIn K xLa = true)
    (poL : PySem.W.plainOver K xLa = true)
    (saL : PySem.W.findIn K (.ref xLa) "__setattr__" = some (some (.builtin "object.__setattr__")))
    (mkL : PySem.W.makesIn K xLa = true)
    (kcL : PySem.W.keepIn K (.ref xLa) = true)
    (nN : PySem.W.findIn K (.ref xLa) "number" = some none)
    (nK : PySem.W.findIn K (.ref xLa) "kind" = some none)
    (nA : PySem.W.findIn K (.ref xLa) "at" = some none)
    (nR : PySem.W.findIn K (.ref xLa) "rounds" = some none)
    (nSt : PySem.W.findIn K (.ref xLa) "strokes" = some none)
    (nE_ : PySem.W.findIn K (.ref xLa) "end" = some none)
    (icaL : PySem.W.findIn K (.ref xLa) "__class__" = some (some (.builtin "object.__class__")))
    (icnL : PySem.W.specialIn K (.builtin "object.__class__") "__get__" = some (some (.builtin "getset_descriptor.__get__")))
    (ictL : PySem.W.takesIn K (.builtin "object.__class__") = some true)
    (icmL : PySem.W.mroIn K xLa (.type "object") = some true)
    (kSL : PySem.W.kitOne K (.ref xLa) (.ref xLa) = some true)
    (pgTC : PySem.W.plainGet K xTr Str.empty = true)
    (hdTC : PySem.W.hasDictIn K xTr = true)
    (poTC : PySem.W.plainOver K xTr = true)
    (saTC : PySem.W.findIn K (.ref xTr) "__setattr__" = some (some (.builtin "object.__setattr__")))
    (mkTC : PySem.W.makesIn K xTr = true)
    (kcTC : PySem.W.keepIn K (.ref xTr) = true)
    (nSp : PySem.W.findIn K (.ref xTr) "span" = some none)
    (nNu : PySem.W.findIn K (.ref xTr) "number" = some none)
    (nLe : PySem.W.findIn K (.ref xTr) "length" = some none)
    (nOf : PySem.W.findIn K (.ref xTr) "offsets" = some none)
    (nKn : PySem.W.findIn K (.ref xTr) "known" = some none)
    (sf : PySem.W.selfFirst K xC = true)
    {tP : Tok}
    (vP : PySem.W.findCls K (.ref xW) (.type "type") "PLAIN" = some (.val (.str "plain" tP)))
    {onm oq : Str} {oN : Addr} {obs : List Value} {ohd : Bool} {osn : List Str} {osub : List Value} {oab : Bool} {ocol : Option Bool} {odd : Option Addr} {ok0 ok1 ok2 ok3 ok5 : Option Value} (ox : K.lookup xC = some (excClassObj onm oq xC oN obs [.type "object"] ohd osn osub oab ocol odd ok0 ok1 ok2 ok3 ok5 "object.__new__")) {oc1 : Value} {od1 : Option Addr} {oes : Array DictEntry} {oex : Nat} {osl : Array (Option Value)} (ol : K.lookup oN = some ⟨oc1, od1, .dict oes oex, osl⟩) (on : (oes.toList.all fun e => match e.key with | .str _ _ => true | _ => false) = true) (oe : PySem.W.nsIn K oN "__eq__" = some (some (.ref x_seq))) (oz : PySem.W.nsIn K oN "__ne__" = some none)
    {eCX eIX : Addr} {enmX eqX : Str} {eNX : Addr} {ebsX ebmX : List Value} {esnX : List Str} {esubX : List Value} {eabX : Bool} {ecolX : Option Bool} {eddX : Option Addr} {em0X em1X em2X em3X em5X : Option Value}
    {eocX edcX epmX ecdX ectX : Value} {eodX eanX : Option Addr} {eslX : Array (Option Value)} {ep1X ep2X eq1X eq2X eq3X eq4X : Pos}
    (e_aX : PySem.W.nsIn K mainGlobals "BadNumber" = some (some (.ref eCX)))
    (e_xX : K.lookup eCX = some (excClassObj enmX eqX eCX eNX ebsX ebmX true esnX esubX eabX ecolX eddX em0X em1X em2X em3X em5X "ValueError.__new__"))
    (e_bX : PySem.HandSPX.refsVE ebmX = true)
    (e_sX : PySem.W.findIn K (.ref eCX) "__setattr__" = some (some (.builtin "object.__setattr__"))) (e_gX : PySem.W.findIn K (.ref eCX) "__getattribute__" = some (some (.builtin "BaseException.__getattribute__"))) (e_hX : PySem.W.findIn K (.ref eCX) "__getattr__" = some none) (e_nX : PySem.W.findIn K (.ref eCX) "number" = some none)
    (e_iX : PySem.W.findIn K (.ref eCX) "__init__" = some (some (.ref eIX))) (e_tX : PySem.W.typeIn K (.ref eIX) = some (.type "function"))
    (e_lX : K.lookup eIX = some ⟨eocX, eodX, .func (PySem.W.fnOf "__init__" "BadNumber.__init__" (PySem.LowX.iA ep1X ep2X) (PySem.LowX.iB eq1X eq2X eq3X eq4X) PySem.LowX.iS .none .none edcX epmX eanX ecdX ectX), eslX⟩) (e_cX : PySem.W.codeIn K ecdX "BadNumber.__init__" = true)
    (e_kX : PySem.W.keepIn K (.ref eCX) = true) (e_eX : PySem.W.subIn K (.ref eCX) (.type "BaseException") = some true) (e_tyX : PySem.W.typeIn K (.ref eCX) = some (.type "type")) (e_dX : PySem.W.hasDictIn K eCX = true) (e_scX : PySem.W.subIn K (.ref eCX) (.ref eCX) = some true)
    {eCY eIY : Addr} {enmY eqY : Str} {eNY : Addr} {ebsY ebmY : List Value} {esnY : List Str} {esubY : List Value} {eabY : Bool} {ecolY : Option Bool} {eddY : Option Addr} {em0Y em1Y em2Y em3Y em5Y : Option Value}
    {eocY edcY epmY ecdY ectY : Value} {eodY eanY : Option Addr} {eslY : Array (Option Value)} {ep1Y ep2Y eq1Y eq2Y eq3Y eq4Y : Pos}
    (e_aY : PySem.W.nsIn K mainGlobals "BadCase" = some (some (.ref eCY)))
    (e_xY : K.lookup eCY = some (excClassObj enmY eqY eCY eNY ebsY ebmY true esnY esubY eabY ecolY eddY em0Y em1Y em2Y em3Y em5Y "ValueError.__new__"))
    (e_bY : PySem.HandSPX.refsVE ebmY = true)
    (e_sY : PySem.W.findIn K (.ref eCY) "__setattr__" = some (some (.builtin "object.__setattr__"))) (e_gY : PySem.W.findIn K (.ref eCY) "__getattribute__" = some (some (.builtin "BaseException.__getattribute__"))) (e_hY : PySem.W.findIn K (.ref eCY) "__getattr__" = some none) (e_nY : PySem.W.findIn K (.ref eCY) "case" = some none)
    (e_iY : PySem.W.findIn K (.ref eCY) "__init__" = some (some (.ref eIY))) (e_tY : PySem.W.typeIn K (.ref eIY) = some (.type "function"))
    (e_lY : K.lookup eIY = some ⟨eocY, eodY, .func (PySem.W.fnOf "__init__" "BadCase.__init__" (PySem.LowY.iA ep1Y ep2Y) (PySem.LowY.iB eq1Y eq2Y eq3Y eq4Y) PySem.LowY.iS .none .none edcY epmY eanY ecdY ectY), eslY⟩) (e_cY : PySem.W.codeIn K ecdY "BadCase.__init__" = true)
    (e_kY : PySem.W.keepIn K (.ref eCY) = true) (e_eY : PySem.W.subIn K (.ref eCY) (.type "BaseException") = some true) (e_tyY : PySem.W.typeIn K (.ref eCY) = some (.type "type")) (e_dY : PySem.W.hasDictIn K eCY = true) (e_scY : PySem.W.subIn K (.ref eCY) (.ref eCY) = some true)
    {eCZ eIZ : Addr} {enmZ eqZ : Str} {eNZ : Addr} {ebsZ ebmZ : List Value} {esnZ : List Str} {esubZ : List Value} {eabZ : Bool} {ecolZ : Option Bool} {eddZ : Option Addr} {em0Z em1Z em2Z em3Z em5Z : Option Value}
    {eocZ edcZ epmZ ecdZ ectZ : Value} {eodZ eanZ : Option Addr} {eslZ : Array (Option Value)} {ep1Z ep2Z eq1Z eq2Z eq3Z eq4Z : Pos}
    (e_aZ : PySem.W.nsIn K mainGlobals "NoLay" = some (some (.ref eCZ)))
    (e_xZ : K.lookup eCZ = some (excClassObj enmZ eqZ eCZ eNZ ebsZ ebmZ true esnZ esubZ eabZ ecolZ eddZ em0Z em1Z em2Z em3Z em5Z "ValueError.__new__"))
    (e_bZ : PySem.HandSPX.refsVE ebmZ = true)
    (e_sZ : PySem.W.findIn K (.ref eCZ) "__setattr__" = some (some (.builtin "object.__setattr__"))) (e_gZ : PySem.W.findIn K (.ref eCZ) "__getattribute__" = some (some (.builtin "BaseException.__getattribute__"))) (e_hZ : PySem.W.findIn K (.ref eCZ) "__getattr__" = some none) (e_nZ : PySem.W.findIn K (.ref eCZ) "wanted" = some none)
    (e_iZ : PySem.W.findIn K (.ref eCZ) "__init__" = some (some (.ref eIZ))) (e_tZ : PySem.W.typeIn K (.ref eIZ) = some (.type "function"))
    (e_lZ : K.lookup eIZ = some ⟨eocZ, eodZ, .func (PySem.W.fnOf "__init__" "NoLay.__init__" (PySem.LowZ.iA ep1Z ep2Z) (PySem.LowZ.iB eq1Z eq2Z eq3Z eq4Z) PySem.LowZ.iS .none .none edcZ epmZ eanZ ecdZ ectZ), eslZ⟩) (e_cZ : PySem.W.codeIn K ecdZ "NoLay.__init__" = true)
    (e_kZ : PySem.W.keepIn K (.ref eCZ) = true) (e_eZ : PySem.W.subIn K (.ref eCZ) (.type "BaseException") = some true) (e_tyZ : PySem.W.typeIn K (.ref eCZ) = some (.type "type")) (e_dZ : PySem.W.hasDictIn K eCZ = true) (e_scZ : PySem.W.subIn K (.ref eCZ) (.ref eCZ) = some true)
    {eW : Addr}
    (e_w : PySem.W.nsIn K mainGlobals "WheelError" = some (some (.ref eW)))
    (kWY : PySem.W.kitOne K (.ref eCY) (.ref eW) = some true)
    (e_icY : PySem.W.isClsIn K eCY = true)
    (e_haY : PySem.W.findIn K (.ref eCY) "__class__" = some (some (.builtin "object.__class__")))
    (e_hmY : PySem.W.mroIn K eCY (.type "object") = some true)
    (kWZ : PySem.W.kitOne K (.ref eCZ) (.ref eW) = some true)
    (e_icZ : PySem.W.isClsIn K eCZ = true)
    (e_haZ : PySem.W.findIn K (.ref eCZ) "__class__" = some (some (.builtin "object.__class__")))
    (e_hmZ : PySem.W.mroIn K eCZ (.type "object") = some true)
    (kZN : PySem.W.kitOne K (.ref eCZ) (.ref eCX) = some false)
    (nsy : PySem.W.subIn K (.ref eCY) (.type "StopIteration") = some false)
    (x_YZ : PySem.W.subIn K (.ref eCY) (.ref eCZ) = some false)
    (kTL : PySem.W.kitOne K (.type "tuple") (.ref xLa) = some false)
    (sTL : PySem.W.subIn K (.type "tuple") (.ref xLa) = some false)
    {onm2 oq2 : Str} {oN2 : Addr} {obs2 : List Value} {ohd2 : Bool} {osn2 : List Str} {osub2 : List Value} {oab2 : Bool} {ocol2 : Option Bool} {odd2 : Option Addr} {ok20 ok21 ok22 ok23 ok25 : Option Value} {oc2 : Value} {od2 : Option Addr} {oes2 : Array DictEntry} {oex2 : Nat} {osl2 : Array (Option Value)}
    (ox2 : K.lookup xLa = some (excClassObj onm2 oq2 xLa oN2 obs2 [.type "object"] ohd2 osn2 osub2 oab2 ocol2 odd2 ok20 ok21 ok22 ok23 ok25 "object.__new__"))
    (ol2 : K.lookup oN2 = some ⟨oc2, od2, .dict oes2 oex2, osl2⟩)
    (on2 : (oes2.toList.all fun e => match e.key with | .str _ _ => true | _ => false) = true)
    (oe2 : PySem.W.nsIn K oN2 "__eq__" = some (some (.ref x_leq)))
    (oz2 : PySem.W.nsIn K oN2 "__ne__" = some none)
    {t_DIGITS : Tok}
    (n_DIGITS : PySem.W.nsIn K mainGlobals "DIGITS" = some (some (.str "123456789" t_DIGITS)))
    {t_MOST_DIGITS : Tok}
    (n_MOST_DIGITS : PySem.W.nsIn K mainGlobals "MOST_DIGITS" = some (some (.int 4 t_MOST_DIGITS)))
    {t_GREATEST_SUM : Tok}
    (n_GREATEST_SUM : PySem.W.nsIn K mainGlobals "GREATEST_SUM" = some (some (.int 24 t_GREATEST_SUM)))
    {t_MOST_LOOPS : Tok}
    (n_MOST_LOOPS : PySem.W.nsIn K mainGlobals "MOST_LOOPS" = some (some (.int 3 t_MOST_LOOPS)))
    {t_MOST_BOXES : Tok}
    (n_MOST_BOXES : PySem.W.nsIn K mainGlobals "MOST_BOXES" = some (some (.int 10 t_MOST_BOXES)))
    {t_MOST_ROUNDS : Tok}
    (n_MOST_ROUNDS : PySem.W.nsIn K mainGlobals "MOST_ROUNDS" = some (some (.int 8 t_MOST_ROUNDS)))
    {t_QUIET : Tok}
    (n_QUIET : PySem.W.nsIn K mainGlobals "QUIET" = some (some (.str "quiet" t_QUIET)))
    {t_TRAIN : Tok}
    (n_TRAIN : PySem.W.nsIn K mainGlobals "TRAIN" = some (some (.str "train" t_TRAIN)))
    {t_KEY : Tok}
    (n_KEY : PySem.W.nsIn K mainGlobals "KEY" = some (some (.str "key" t_KEY)))
    (z_all : PySem.W.nsIn K mainGlobals "all" = some none)
    (z_any : PySem.W.nsIn K mainGlobals "any" = some none)
    (z_bool : PySem.W.nsIn K mainGlobals "bool" = some none)
    (z_enumerate : PySem.W.nsIn K mainGlobals "enumerate" = some none)
    (z_int : PySem.W.nsIn K mainGlobals "int" = some none)
    (z_isinstance : PySem.W.nsIn K mainGlobals "isinstance" = some none)
    (z_iter : PySem.W.nsIn K mainGlobals "iter" = some none)
    (z_len : PySem.W.nsIn K mainGlobals "len" = some none)
    (z_list : PySem.W.nsIn K mainGlobals "list" = some none)
    (z_max : PySem.W.nsIn K mainGlobals "max" = some none)
    (z_min : PySem.W.nsIn K mainGlobals "min" = some none)
    (z_range : PySem.W.nsIn K mainGlobals "range" = some none)
    (z_repr : PySem.W.nsIn K mainGlobals "repr" = some none)
    (z_set : PySem.W.nsIn K mainGlobals "set" = some none)
    (z_sorted : PySem.W.nsIn K mainGlobals "sorted" = some none)
    (z_str : PySem.W.nsIn K mainGlobals "str" = some none)
    (z_sum : PySem.W.nsIn K mainGlobals "sum" = some none)
    (z_tuple : PySem.W.nsIn K mainGlobals "tuple" = some none)
    : ∃ fd : FuncData, (∀ (s : Shared) (v : Value), BindsTo s fd ⟨[v], []⟩ [("_law_script", v)]) ∧ ∀ base : Heap, K.In base → base.Ns mainGlobals mg → Rp.GOk l.prog w K mg base CX0 16 fa fd ["_law_script"] (sp_law K) := by
  have e := hfa.symm.trans (PySem.W.mg_of X G a_law)
  cases e
  have F_is_whole := fun_mk (st := s_is_whole) l_is_whole c_is_whole k_is_whole
  have b_is_whole := F_is_whole.binds (ps := ["thing"]) fun _ _ _ _ _ _ us hl => match us, hl with | [_], _ => rfl
  have F_check_offset := fun_mk (st := s_check_offset) l_check_offset c_check_offset k_check_offset
  have b_check_offset := F_check_offset.binds (ps := ["thing"]) fun _ _ _ _ _ _ us hl => match us, hl with | [_], _ => rfl
  have F_init : FunD K "__init__" "Strokes.__init__" (defArgs s_init) (defBody s_init) (defScope s_init) [V.ref xE] [] x_init _ := ⟨⟨_, _, _, _, _, _, _, _, _, _, rfl, l_init, c_init, .inr ⟨List.cons_ne_nil _ _, xT, _, [.ref xE], _, rfl, e_init, rfl, .cons rfl .nil⟩, .inl rfl⟩, k_init⟩
  have b_init := F_init.binds1 (ps := ["self", "offsets"]) 2 1 (List.cons_ne_nil _ _) rfl fun T kV doc pm an cdv ct us its h1 h2 => match us, its, h1, h2 with | [_, _], [_], _, _ => ⟨_, rfl, rfl⟩
  obtain ⟨ds_init, rd_init, b_init⟩ := b_init
  cases rd_init
  have b0_init := F_init.binds1 (ps := ["self", "offsets"]) 1 0 (List.cons_ne_nil _ _) rfl fun T kV doc pm an cdv ct us its h1 h2 => match us, its, h1, h2 with | [_], [_], _, _ => ⟨_, rfl, rfl⟩
  obtain ⟨dw, r_init, b0_init⟩ := b0_init
  have F_iter := fun_mk (st := s_iter) l_iter c_iter k_iter
  have b_iter := F_iter.binds (ps := ["self"]) fun _ _ _ _ _ _ us hl => match us, hl with | [_], _ => rfl
  have F_len := fun_mk (st := s_len) l_len c_len k_len
  have b_len := F_len.binds (ps := ["self"]) fun _ _ _ _ _ _ us hl => match us, hl with | [_], _ => rfl
  have F_contains := fun_mk (st := s_contains) l_contains c_contains k_contains
  have b_contains := F_contains.binds (ps := ["self", "x"]) fun _ _ _ _ _ _ us hl => match us, hl with | [_, _], _ => rfl
  have F_sub := fun_mk (st := s_sub) l_sub c_sub k_sub
  have b_sub := F_sub.binds (ps := ["self", "other"]) fun _ _ _ _ _ _ us hl => match us, hl with | [_, _], _ => rfl
  have F_lowest := fun_mk (st := s_lowest) l_lowest c_lowest k_lowest
  have b_lowest := F_lowest.binds (ps := ["self"]) fun _ _ _ _ _ _ us hl => match us, hl with | [_], _ => rfl
  have F_swithin := fun_mk (st := s_swithin) l_swithin c_swithin k_swithin
  have b_swithin := F_swithin.binds (ps := ["self", "other"]) fun _ _ _ _ _ _ us hl => match us, hl with | [_, _], _ => rfl
  have F_cut := fun_mk (st := s_cut) l_cut c_cut k_cut
  have b_cut := F_cut.binds (ps := ["self", "end"]) fun _ _ _ _ _ _ us hl => match us, hl with | [_, _], _ => rfl
  have F_is_number := fun_mk (st := s_is_number) l_is_number c_is_number k_is_number
  have b_is_number := F_is_number.binds (ps := ["thing"]) fun _ _ _ _ _ _ us hl => match us, hl with | [_], _ => rfl
  have F_check_number := fun_mk (st := s_check_number) l_check_number c_check_number k_check_number
  have b_check_number := F_check_number.binds (ps := ["thing"]) fun _ _ _ _ _ _ us hl => match us, hl with | [_], _ => rfl
  have F_blocks := fun_mk (st := s_blocks) l_blocks c_blocks k_blocks
  have b_blocks := F_blocks.binds (ps := ["number"]) fun _ _ _ _ _ _ us hl => match us, hl with | [_], _ => rfl
  have F_row_of := fun_mk (st := s_row_of) l_row_of c_row_of k_row_of
  have b_row_of := F_row_of.binds (ps := ["number"]) fun _ _ _ _ _ _ us hl => match us, hl with | [_], _ => rfl
  have F_length_of := fun_mk (st := s_length_of) l_length_of c_length_of k_length_of
  have b_length_of := F_length_of.binds (ps := ["number"]) fun _ _ _ _ _ _ us hl => match us, hl with | [_], _ => rfl
  have F_strokes_of := fun_mk (st := s_strokes_of) l_strokes_of c_strokes_of k_strokes_of
  have b_strokes_of := F_strokes_of.binds (ps := ["number"]) fun _ _ _ _ _ _ us hl => match us, hl with | [_], _ => rfl
  have F_step_back := fun_mk (st := s_step_back) l_step_back c_step_back k_step_back
  have b_step_back := F_step_back.binds (ps := ["number", "pattern"]) fun _ _ _ _ _ _ us hl => match us, hl with | [_, _], _ => rfl
  have F_head_of := fun_mk (st := s_head_of) l_head_of c_head_of k_head_of
  have b_head_of := F_head_of.binds (ps := ["number", "pattern"]) fun _ _ _ _ _ _ us hl => match us, hl with | [_, _], _ => rfl
  have F_train_strokes := fun_mk (st := s_train_strokes) l_train_strokes c_train_strokes k_train_strokes
  have b_train_strokes := F_train_strokes.binds (ps := ["number", "at", "rounds", "span"]) fun _ _ _ _ _ _ us hl => match us, hl with | [_, _, _, _], _ => rfl
  have F_linit := fun_mk (st := s_linit) l_linit c_linit k_linit
  have b_linit := F_linit.binds (ps := ["self", "number", "kind", "at", "rounds", "strokes", "end"]) fun _ _ _ _ _ _ us hl => match us, hl with | [_, _, _, _, _, _, _], _ => rfl
  have F_facts := fun_mk (st := s_facts) l_facts c_facts k_facts
  have b_facts := F_facts.binds (ps := ["self"]) fun _ _ _ _ _ _ us hl => match us, hl with | [_], _ => rfl
  have F_seq := fun_mk (st := s_seq) l_seq c_seq k_seq
  have b_seq := F_seq.binds (ps := ["self", "other"]) fun _ _ _ _ _ _ us hl => match us, hl with | [_, _], _ => rfl
  have F_leq := fun_mk (st := s_leq) l_leq c_leq k_leq
  have b_leq := F_leq.binds (ps := ["self", "other"]) fun _ _ _ _ _ _ us hl => match us, hl with | [_, _], _ => rfl
  have F_tinit := fun_mk (st := s_tinit) l_tinit c_tinit k_tinit
  have b_tinit := F_tinit.binds (ps := ["self", "pattern", "span", "number"]) fun _ _ _ _ _ _ us hl => match us, hl with | [_, _, _, _], _ => rfl
  have F_has_foreign := fun_mk (st := s_has_foreign) l_has_foreign c_has_foreign k_has_foreign
  have b_has_foreign := F_has_foreign.binds (ps := ["self", "at"]) fun _ _ _ _ _ _ us hl => match us, hl with | [_, _], _ => rfl
  have F_good_rounds := fun_mk (st := s_good_rounds) l_good_rounds c_good_rounds k_good_rounds
  have b_good_rounds := F_good_rounds.binds (ps := ["self", "at", "most"]) fun _ _ _ _ _ _ us hl => match us, hl with | [_, _, _], _ => rfl
  have F_lays_from := fun_mk (st := s_lays_from) l_lays_from c_lays_from k_lays_from
  have b_lays_from := F_lays_from.binds (ps := ["self", "kind", "at", "least", "most"]) fun _ _ _ _ _ _ us hl => match us, hl with | [_, _, _, _, _], _ => rfl
  have F_plain_lays := fun_mk (st := s_plain_lays) l_plain_lays c_plain_lays k_plain_lays
  have b_plain_lays := F_plain_lays.binds (ps := ["pattern", "span", "number", "rounds", "case"]) fun _ _ _ _ _ _ us hl => match us, hl with | [_, _, _, _, _], _ => rfl
  have F_shy_lays := fun_mk (st := s_shy_lays) l_shy_lays c_shy_lays k_shy_lays
  have b_shy_lays := F_shy_lays.binds (ps := ["pattern", "span", "number", "case"]) fun _ _ _ _ _ _ us hl => match us, hl with | [_, _, _, _], _ => rfl
  have F_lays := fun_mk (st := s_lays) l_lays c_lays k_lays
  have b_lays := F_lays.binds (ps := ["pattern", "span", "boxes", "rounds", "case"]) fun _ _ _ _ _ _ us hl => match us, hl with | [_, _, _, _, _], _ => rfl
  have F_are_facts_of := fun_mk (st := s_are_facts_of) l_are_facts_of c_are_facts_of k_are_facts_of
  have b_are_facts_of := F_are_facts_of.binds (ps := ["thing", "lay"]) fun _ _ _ _ _ _ us hl => match us, hl with | [_, _], _ => rfl
  have F_clash := fun_mk (st := s_clash) l_clash c_clash k_clash
  have b_clash := F_clash.binds (ps := ["one", "other"]) fun _ _ _ _ _ _ us hl => match us, hl with | [_, _], _ => rfl
  have F_lay_of := fun_mk (st := s_lay_of) l_lay_of c_lay_of k_lay_of
  have b_lay_of := F_lay_of.binds (ps := ["facts", "pattern", "span", "boxes", "rounds", "case"]) fun _ _ _ _ _ _ us hl => match us, hl with | [_, _, _, _, _, _], _ => rfl
  have F_bag := fun_mk (st := s_bag) l_bag c_bag k_bag
  have b_bag := F_bag.binds (ps := ["_law_script"]) fun _ _ _ _ _ _ us hl => match us, hl with | [_], _ => rfl
  have F_draw := fun_mk (st := s_draw) l_draw c_draw k_draw
  have b_draw := F_draw.binds (ps := ["_law_bag_here", "_law_limit"]) fun _ _ _ _ _ _ us hl => match us, hl with | [_, _], _ => rfl
  have F_number := fun_mk (st := s_number) l_number c_number k_number
  have b_number := F_number.binds (ps := ["_law_bag_here"]) fun _ _ _ _ _ _ us hl => match us, hl with | [_], _ => rfl
  have F_row := fun_mk (st := s_row) l_row c_row k_row
  have b_row := F_row.binds (ps := ["_law_number_here"]) fun _ _ _ _ _ _ us hl => match us, hl with | [_], _ => rfl
  have F_says := fun_mk (st := s_says) l_says c_says k_says
  have b_says := F_says.binds (ps := ["_law_told", "_law_due"]) fun _ _ _ _ _ _ us hl => match us, hl with | [_, _], _ => rfl
  have F_digits := fun_mk (st := s_digits) l_digits c_digits k_digits
  have b_digits := F_digits.binds (ps := ["_law_bag_here", "_law_many", "_law_top"]) fun _ _ _ _ _ _ us hl => match us, hl with | [_, _, _], _ => rfl
  have F_center := fun_mk (st := s_center) l_center c_center k_center
  have b_center := F_center.binds (ps := ["_law_bag_here"]) fun _ _ _ _ _ _ us hl => match us, hl with | [_], _ => rfl
  have F_beside := fun_mk (st := s_beside) l_beside c_beside k_beside
  have b_beside := F_beside.binds (ps := ["_law_bag_here", "_law_center_here"]) fun _ _ _ _ _ _ us hl => match us, hl with | [_, _], _ => rfl
  have F_boxes := fun_mk (st := s_boxes) l_boxes c_boxes k_boxes
  have b_boxes := F_boxes.binds (ps := ["_law_bag_here", "_law_center_here", "_law_many"]) fun _ _ _ _ _ _ us hl => match us, hl with | [_, _, _], _ => rfl
  have F_offsets := fun_mk (st := s_offsets) l_offsets c_offsets k_offsets
  have b_offsets := F_offsets.binds (ps := ["_law_bag_here", "_law_center_here"]) fun _ _ _ _ _ _ us hl => match us, hl with | [_, _], _ => rfl
  have F_bent := fun_mk (st := s_bent) l_bent c_bent k_bent
  have b_bent := F_bent.binds (ps := ["_law_bag_here", "_law_facts"]) fun _ _ _ _ _ _ us hl => match us, hl with | [_, _], _ => rfl
  have F_tried := fun_mk (st := s_tried) l_tried c_tried k_tried
  have b_tried := F_tried.binds (ps := ["_law_facts", "_law_strokes", "_law_span", "_law_boxes_here", "_law_most", "_law_case"]) fun _ _ _ _ _ _ us hl => match us, hl with | [_, _, _, _, _, _], _ => rfl
  have F_listed := fun_mk (st := s_listed) l_listed c_listed k_listed
  have b_listed := F_listed.binds (ps := ["_law_strokes", "_law_span", "_law_boxes_here", "_law_most", "_law_case"]) fun _ _ _ _ _ _ us hl => match us, hl with | [_, _, _, _, _], _ => rfl
  have F_known := fun_mk (st := s_known) l_known c_known k_known
  have b_known := F_known.binds (ps := ["_law_facts", "_law_told"]) fun _ _ _ _ _ _ us hl => match us, hl with | [_, _], _ => rfl
  have F_overlap := fun_mk (st := s_overlap) l_overlap c_overlap k_overlap
  have b_overlap := F_overlap.binds (ps := ["_law_one", "_law_other"]) fun _ _ _ _ _ _ us hl => match us, hl with | [_, _], _ => rfl
  have F_wlays := fun_mk (st := s_wlays) l_wlays c_wlays k_wlays
  have b_wlays := F_wlays.binds (ps := ["_law_told", "_law_strokes", "_law_span", "_law_boxes_here", "_law_most", "_law_case"]) fun _ _ _ _ _ _ us hl => match us, hl with | [_, _, _, _, _, _], _ => rfl
  have F_twins := fun_mk (st := s_twins) l_twins c_twins k_twins
  have b_twins := F_twins.binds (ps := ["_law_told", "_law_other"]) fun _ _ _ _ _ _ us hl => match us, hl with | [_, _], _ => rfl
  have F_law := fun_mk (st := s_law) l_law c_law k_law
  have b_law := F_law.binds (ps := ["_law_script"]) fun _ _ _ _ _ _ us hl => match us, hl with | [_], _ => rfl
  have lowX : PySem.LowX.LowTxt K mg eCX eIX :=
    { gC := PySem.W.mg_of X G e_aX, cls := ⟨enmX, eqX, eNX, ebsX, _, esnX, esubX, eabX, ecolX, eddX, em0X, em1X, em2X, em3X, em5X, e_xX, e_bX⟩, sa := e_sX, ga := e_gX, gg := e_hX, noN := e_nX, iC := e_iX, tC := e_tX, kC := e_kX, exC := e_eX, tyC := e_tyX, hdC := e_dX, te := PySem.W.exm_ref e_eX e_dX e_tyX e_scX,
      fn := ⟨_, _, _, _, _, _, _, _, _, _, _, _, _, _, e_lX, e_cX⟩ }
  have lowY : PySem.LowY.LowTxt K mg eCY eIY :=
    { gC := PySem.W.mg_of X G e_aY, cls := ⟨enmY, eqY, eNY, ebsY, _, esnY, esubY, eabY, ecolY, eddY, em0Y, em1Y, em2Y, em3Y, em5Y, e_xY, e_bY⟩, sa := e_sY, ga := e_gY, gg := e_hY, noN := e_nY, iC := e_iY, tC := e_tY, kC := e_kY, exC := e_eY, tyC := e_tyY, hdC := e_dY, te := PySem.W.exm_ref e_eY e_dY e_tyY e_scY,
      fn := ⟨_, _, _, _, _, _, _, _, _, _, _, _, _, _, e_lY, e_cY⟩ }
  have lowZ : PySem.LowZ.LowTxt K mg eCZ eIZ :=
    { gC := PySem.W.mg_of X G e_aZ, cls := ⟨enmZ, eqZ, eNZ, ebsZ, _, esnZ, esubZ, eabZ, ecolZ, eddZ, em0Z, em1Z, em2Z, em3Z, em5Z, e_xZ, e_bZ⟩, sa := e_sZ, ga := e_gZ, gg := e_hZ, noN := e_nZ, iC := e_iZ, tC := e_tZ, kC := e_kZ, exC := e_eZ, tyC := e_tyZ, hdC := e_dZ, te := PySem.W.exm_ref e_eZ e_dZ e_tyZ e_scZ,
      fn := ⟨_, _, _, _, _, _, _, _, _, _, _, _, _, _, e_lZ, e_cZ⟩ }
  have T : Σ' T : Txt K mg, T.a_law = fa ∧ T.d_law = PySem.W.fnOf "law" "law" (defArgs s_law) (defBody s_law) (defScope s_law) .none kV_law dc_law pm_law an_law cd_law ct_law :=
    ⟨{ C := xC, gC := PySem.W.mg_of X G axC, clC := ⟨pg, hd, po, sa⟩,
        isi := ⟨ica, icn, ict, icm⟩, kS := kS,
        W := xW, gW := PySem.W.mg_of X G axW, clW := ⟨pgW, hdW, poW, saW⟩,
        L := xLa, gL := PySem.W.mg_of X G axLa, clL := ⟨pgL, hdL, poL, saL⟩,
        isiL := ⟨icaL, icnL, ictL, icmL⟩, kSL := kSL,
        TC := xTr, gTC := PySem.W.mg_of X G axTr, clTC := ⟨pgTC, hdTC, poTC, saTC⟩,
        nO := nO, nN := nN, nK := nK, nA := nA, nR := nR, nSt := nSt, nE := nE_, nSp := nSp, nNu := nNu, nLe := nLe, nOf := nOf, nKn := nKn,
        CN := _, fN := _, low := lowX, sf := sf, sfC := (by unfold PySem.W.notFirst; simp),
        CY := _, fY := _, lowY := lowY, CZ := _, fZ := _, lowZ := lowZ, Wc := _, gWc := PySem.W.mg_of X G e_w, kYW := kWY, kZW := kWZ, kZN := kZN, eYZ := PySem.W.exm_ref e_eZ e_dZ e_tyZ x_YZ, nsY := nsy,
        xcY := ⟨e_gY, e_hY, e_eY, e_dY, e_haY, icn, ict, e_hmY⟩, cliY := e_icY, xcZ := ⟨e_gZ, e_hZ, e_eZ, e_dZ, e_haZ, icn, ict, e_hmZ⟩, cliZ := e_icZ,
        kTL := kTL, sfL := (by unfold PySem.W.notFirst; simp), sfTL := (by unfold PySem.W.notFirst; rw [sTL]; simp),
        aSeq := a_seq, iSeq := i_seq, aLeq := a_leq, iLeq := i_leq, neS := ⟨⟨_, _, _, _, _, _, _, _, _, _, _, _, _, _, _, ox, ns_ok ol on, oe, oz⟩, i_seq⟩, neL := ⟨⟨_, _, _, _, _, _, _, _, _, _, _, _, _, _, _, ox2, ns_ok ol2 on2, oe2, oz2⟩, i_leq⟩,
        mc := .type "type", rd := ⟨rdW, gaW⟩, uP := _, vP := ⟨vP, ⟨_, rfl⟩⟩,
        aLen := a_len, iLen := i_len, aIt := a_iter, iIt := i_iter, aIn := a_contains, iIn := i_contains, h_sub := a_sub, i_sub := i_sub,
        a_is_whole := _, d_is_whole := _, F_is_whole := F_is_whole, b_is_whole := b_is_whole, g_is_whole := PySem.W.mg_of X G a_is_whole,
        a_check_offset := _, d_check_offset := _, F_check_offset := F_check_offset, b_check_offset := b_check_offset, g_check_offset := PySem.W.mg_of X G a_check_offset,
        a_init := _, d_init := _, F_init := F_init, b_init := b_init, mk_init := ⟨mk, a_init, i_init, kc⟩, ds0 := dw, r_init := r_init, b0_init := b0_init, tE := xE, eT := ⟨_, _, e2_init, rfl, rfl⟩,
        a_iter := _, d_iter := _, F_iter := F_iter, b_iter := b_iter, m_iter := ⟨a_iter, i_iter, k_iter⟩,
        a_len := _, d_len := _, F_len := F_len, b_len := b_len, m_len := ⟨a_len, i_len, k_len⟩,
        a_contains := _, d_contains := _, F_contains := F_contains, b_contains := b_contains, m_contains := ⟨a_contains, i_contains, k_contains⟩,
        a_sub := _, d_sub := _, F_sub := F_sub, b_sub := b_sub, m_sub := ⟨a_sub, i_sub, k_sub⟩,
        a_lowest := _, d_lowest := _, F_lowest := F_lowest, b_lowest := b_lowest, pL := y_lowest, pr := ⟨a_lowest, g_lowest, t_lowest, rs_lowest, r_lowest⟩,
        a_swithin := _, d_swithin := _, F_swithin := F_swithin, b_swithin := b_swithin, m_swithin := ⟨a_swithin, i_swithin, k_swithin⟩,
        a_cut := _, d_cut := _, F_cut := F_cut, b_cut := b_cut, m_cut := ⟨a_cut, i_cut, k_cut⟩,
        a_is_number := _, d_is_number := _, F_is_number := F_is_number, b_is_number := b_is_number, g_is_number := PySem.W.mg_of X G a_is_number,
        a_check_number := _, d_check_number := _, F_check_number := F_check_number, b_check_number := b_check_number, g_check_number := PySem.W.mg_of X G a_check_number,
        a_blocks := _, d_blocks := _, F_blocks := F_blocks, b_blocks := b_blocks, g_blocks := PySem.W.mg_of X G a_blocks,
        a_row_of := _, d_row_of := _, F_row_of := F_row_of, b_row_of := b_row_of, g_row_of := PySem.W.mg_of X G a_row_of,
        a_length_of := _, d_length_of := _, F_length_of := F_length_of, b_length_of := b_length_of, g_length_of := PySem.W.mg_of X G a_length_of,
        a_strokes_of := _, d_strokes_of := _, F_strokes_of := F_strokes_of, b_strokes_of := b_strokes_of, g_strokes_of := PySem.W.mg_of X G a_strokes_of,
        a_step_back := _, d_step_back := _, F_step_back := F_step_back, b_step_back := b_step_back, g_step_back := PySem.W.mg_of X G a_step_back,
        a_head_of := _, d_head_of := _, F_head_of := F_head_of, b_head_of := b_head_of, g_head_of := PySem.W.mg_of X G a_head_of,
        a_train_strokes := _, d_train_strokes := _, F_train_strokes := F_train_strokes, b_train_strokes := b_train_strokes, g_train_strokes := PySem.W.mg_of X G a_train_strokes,
        a_linit := _, d_linit := _, F_linit := F_linit, b_linit := b_linit, mk_linit := ⟨mkL, a_linit, i_linit, kcL⟩,
        a_facts := _, d_facts := _, F_facts := F_facts, b_facts := b_facts, m_facts := ⟨a_facts, i_facts, k_facts⟩,
        a_seq := _, d_seq := _, F_seq := F_seq, b_seq := b_seq, m_seq := ⟨a_seq, i_seq, k_seq⟩,
        a_leq := _, d_leq := _, F_leq := F_leq, b_leq := b_leq, m_leq := ⟨a_leq, i_leq, k_leq⟩,
        a_tinit := _, d_tinit := _, F_tinit := F_tinit, b_tinit := b_tinit, mk_tinit := ⟨mkTC, a_tinit, i_tinit, kcTC⟩,
        a_has_foreign := _, d_has_foreign := _, F_has_foreign := F_has_foreign, b_has_foreign := b_has_foreign, m_has_foreign := ⟨a_has_foreign, i_has_foreign, k_has_foreign⟩,
        a_good_rounds := _, d_good_rounds := _, F_good_rounds := F_good_rounds, b_good_rounds := b_good_rounds, m_good_rounds := ⟨a_good_rounds, i_good_rounds, k_good_rounds⟩,
        a_lays_from := _, d_lays_from := _, F_lays_from := F_lays_from, b_lays_from := b_lays_from, m_lays_from := ⟨a_lays_from, i_lays_from, k_lays_from⟩,
        a_plain_lays := _, d_plain_lays := _, F_plain_lays := F_plain_lays, b_plain_lays := b_plain_lays, g_plain_lays := PySem.W.mg_of X G a_plain_lays,
        a_shy_lays := _, d_shy_lays := _, F_shy_lays := F_shy_lays, b_shy_lays := b_shy_lays, g_shy_lays := PySem.W.mg_of X G a_shy_lays,
        a_lays := _, d_lays := _, F_lays := F_lays, b_lays := b_lays, g_lays := PySem.W.mg_of X G a_lays,
        a_are_facts_of := _, d_are_facts_of := _, F_are_facts_of := F_are_facts_of, b_are_facts_of := b_are_facts_of, g_are_facts_of := PySem.W.mg_of X G a_are_facts_of,
        a_clash := _, d_clash := _, F_clash := F_clash, b_clash := b_clash, g_clash := PySem.W.mg_of X G a_clash,
        a_lay_of := _, d_lay_of := _, F_lay_of := F_lay_of, b_lay_of := b_lay_of, g_lay_of := PySem.W.mg_of X G a_lay_of,
        a_bag := _, d_bag := _, F_bag := F_bag, b_bag := b_bag, g_bag := PySem.W.mg_of X G a_bag,
        a_draw := _, d_draw := _, F_draw := F_draw, b_draw := b_draw, g_draw := PySem.W.mg_of X G a_draw,
        a_number := _, d_number := _, F_number := F_number, b_number := b_number, g_number := PySem.W.mg_of X G a_number,
        a_row := _, d_row := _, F_row := F_row, b_row := b_row, g_row := PySem.W.mg_of X G a_row,
        a_says := _, d_says := _, F_says := F_says, b_says := b_says, g_says := PySem.W.mg_of X G a_says,
        a_digits := _, d_digits := _, F_digits := F_digits, b_digits := b_digits, g_digits := PySem.W.mg_of X G a_digits,
        a_center := _, d_center := _, F_center := F_center, b_center := b_center, g_center := PySem.W.mg_of X G a_center,
        a_beside := _, d_beside := _, F_beside := F_beside, b_beside := b_beside, g_beside := PySem.W.mg_of X G a_beside,
        a_boxes := _, d_boxes := _, F_boxes := F_boxes, b_boxes := b_boxes, g_boxes := PySem.W.mg_of X G a_boxes,
        a_offsets := _, d_offsets := _, F_offsets := F_offsets, b_offsets := b_offsets, g_offsets := PySem.W.mg_of X G a_offsets,
        a_bent := _, d_bent := _, F_bent := F_bent, b_bent := b_bent, g_bent := PySem.W.mg_of X G a_bent,
        a_tried := _, d_tried := _, F_tried := F_tried, b_tried := b_tried, g_tried := PySem.W.mg_of X G a_tried,
        a_listed := _, d_listed := _, F_listed := F_listed, b_listed := b_listed, g_listed := PySem.W.mg_of X G a_listed,
        a_known := _, d_known := _, F_known := F_known, b_known := b_known, g_known := PySem.W.mg_of X G a_known,
        a_overlap := _, d_overlap := _, F_overlap := F_overlap, b_overlap := b_overlap, g_overlap := PySem.W.mg_of X G a_overlap,
        a_wlays := _, d_wlays := _, F_wlays := F_wlays, b_wlays := b_wlays, g_wlays := PySem.W.mg_of X G a_wlays,
        a_twins := _, d_twins := _, F_twins := F_twins, b_twins := b_twins, g_twins := PySem.W.mg_of X G a_twins,
        a_law := _, d_law := _, F_law := F_law, b_law := b_law, g_law := PySem.W.mg_of X G a_law,
        t_DIGITS := _, c_DIGITS := PySem.W.mg_of X G n_DIGITS,
        t_MOST_DIGITS := _, c_MOST_DIGITS := PySem.W.mg_of X G n_MOST_DIGITS,
        t_GREATEST_SUM := _, c_GREATEST_SUM := PySem.W.mg_of X G n_GREATEST_SUM,
        t_MOST_LOOPS := _, c_MOST_LOOPS := PySem.W.mg_of X G n_MOST_LOOPS,
        t_MOST_BOXES := _, c_MOST_BOXES := PySem.W.mg_of X G n_MOST_BOXES,
        t_MOST_ROUNDS := _, c_MOST_ROUNDS := PySem.W.mg_of X G n_MOST_ROUNDS,
        t_QUIET := _, c_QUIET := PySem.W.mg_of X G n_QUIET,
        t_TRAIN := _, c_TRAIN := PySem.W.mg_of X G n_TRAIN,
        t_KEY := _, c_KEY := PySem.W.mg_of X G n_KEY,
        z_all := PySem.W.mg_none_of X G z_all,
        z_any := PySem.W.mg_none_of X G z_any,
        z_bool := PySem.W.mg_none_of X G z_bool,
        z_enumerate := PySem.W.mg_none_of X G z_enumerate,
        z_int := PySem.W.mg_none_of X G z_int,
        z_isinstance := PySem.W.mg_none_of X G z_isinstance,
        z_iter := PySem.W.mg_none_of X G z_iter,
        z_len := PySem.W.mg_none_of X G z_len,
        z_list := PySem.W.mg_none_of X G z_list,
        z_max := PySem.W.mg_none_of X G z_max,
        z_min := PySem.W.mg_none_of X G z_min,
        z_range := PySem.W.mg_none_of X G z_range,
        z_repr := PySem.W.mg_none_of X G z_repr,
        z_set := PySem.W.mg_none_of X G z_set,
        z_sorted := PySem.W.mg_none_of X G z_sorted,
        z_str := PySem.W.mg_none_of X G z_str,
        z_sum := PySem.W.mg_none_of X G z_sum,
        z_tuple := PySem.W.mg_none_of X G z_tuple }, rfl, rfl⟩
  obtain ⟨T, e1, e2⟩ := T
  subst e1
  refine ⟨T.d_law, fun s v => by rw [e2]; exact .of_eq rfl, fun base _ _ => ok_law T⟩
theorem walk {l : PySem.W.OpenLaw} {q : Program} {loose : List Str} {XP : (Str → Option Value) → Heap → Prop} {YP : World → Heap → Prop} {d : DefRec} {K : Params → PySem.W.Frag} (hn : l.most = some 63) (hdf : d.params.defaults = [])
    (hY : ∀ (w : World) (h : Heap), YP w h → (K w.params).In h)
    (F : ∀ (w : World) (mg : Str → Option Value) (fa : Addr) (h : Heap), (K w.params).In h → h.Ns mainGlobals mg → mg d.name = some (.ref fa) →
      ∃ fd : FuncData, (∀ (s : Shared) (u : Value), BindsTo s fd ⟨[u], []⟩ [("_law_script", u)]) ∧ ∀ base : Heap, (K w.params).In base → base.Ns mainGlobals mg → Rp.GOk l.prog w (K w.params) mg base CX0 16 fa fd ["_law_script"] (sp_law (K w.params))) :
    PySem.W.WalkO q loose XP YP l.row.toRowW d [] (fun f vs => PySem.call f vs) :=
  Rp.walk_gof (n := 63) (k := 16) (x := "_law_script") (CX := fun _ => CX0) (sp := fun w => sp_law (K w.params)) hn (by decide) hdf ⟨rfl, by decide, by decide⟩ hY F (fun w H a ns hl _ hS => ⟨a, ns, rfl, hS, hl, fun _ => rfl⟩) fun _ _ _ _ _ z => z
end K15

open PySem PySem.W PyProof.Rows in
set_option maxRecDepth 100000 in
set_option maxHeartbeats 0 in
theorem PySem.Challenge.cw_wheelchorus_k15_whole_single_lays_and_cl_holds : PySem.Challenge.rw_wheelchorus_k15_whole_single_lays_and_cl.Holds := by
  w_on; o_law; k_head; (case hw => w_witness2)
  k_fill
  refine K15.walk (l := PySem.Challenge.rw_wheelchorus_k15_whole_single_lays_and_cl) rfl rfl (fun w h Y => PySem.W.kIn_of Y) ?F
  case F =>
    intro w mg fa h KX G hmg
    refine' K15.all_mk KX G hmg ?axC ?axW ?axLa ?axTr ?a_is_whole ?l_is_whole ?c_is_whole ?k_is_whole ?a_check_offset ?l_check_offset ?c_check_offset ?k_check_offset ?a_init ?i_init ?l_init ?c_init ?k_init ?e_init ?e2_init ?a_iter ?i_iter ?l_iter ?c_iter ?k_iter ?a_len ?i_len ?l_len ?c_len ?k_len ?a_contains ?i_contains ?l_contains ?c_contains ?k_contains ?a_sub ?i_sub ?l_sub ?c_sub ?k_sub ?a_lowest ?g_lowest ?t_lowest ?r_lowest ?l_lowest ?c_lowest ?k_lowest ?a_swithin ?i_swithin ?l_swithin ?c_swithin ?k_swithin ?a_cut ?i_cut ?l_cut ?c_cut ?k_cut ?a_is_number ?l_is_number ?c_is_number ?k_is_number ?a_check_number ?l_check_number ?c_check_number ?k_check_number ?a_blocks ?l_blocks ?c_blocks ?k_blocks ?a_row_of ?l_row_of ?c_row_of ?k_row_of ?a_length_of ?l_length_of ?c_length_of ?k_length_of ?a_strokes_of ?l_strokes_of ?c_strokes_of ?k_strokes_of ?a_step_back ?l_step_back ?c_step_back ?k_step_back ?a_head_of ?l_head_of ?c_head_of ?k_head_of ?a_train_strokes ?l_train_strokes ?c_train_strokes ?k_train_strokes ?a_linit ?i_linit ?l_linit ?c_linit ?k_linit ?a_facts ?i_facts ?l_facts ?c_facts ?k_facts ?a_seq ?i_seq ?l_seq ?c_seq ?k_seq ?a_leq ?i_leq ?l_leq ?c_leq ?k_leq ?a_tinit ?i_tinit ?l_tinit ?c_tinit ?k_tinit ?a_has_foreign ?i_has_foreign ?l_has_foreign ?c_has_foreign ?k_has_foreign ?a_good_rounds ?i_good_rounds ?l_good_rounds ?c_good_rounds ?k_good_rounds ?a_lays_from ?i_lays_from ?l_lays_from ?c_lays_from ?k_lays_from ?a_plain_lays ?l_plain_lays ?c_plain_lays ?k_plain_lays ?a_shy_lays ?l_shy_lays ?c_shy_lays ?k_shy_lays ?a_lays ?l_lays ?c_lays ?k_lays ?a_are_facts_of ?l_are_facts_of ?c_are_facts_of ?k_are_facts_of ?a_clash ?l_clash ?c_clash ?k_clash ?a_lay_of ?l_lay_of ?c_lay_of ?k_lay_of ?a_bag ?l_bag ?c_bag ?k_bag ?a_draw ?l_draw ?c_draw ?k_draw ?a_number ?l_number ?c_number ?k_number ?a_row ?l_row ?c_row ?k_row ?a_says ?l_says ?c_says ?k_says ?a_digits ?l_digits ?c_digits ?k_digits ?a_center ?l_center ?c_center ?k_center ?a_beside ?l_beside ?c_beside ?k_beside ?a_boxes ?l_boxes ?c_boxes ?k_boxes ?a_offsets ?l_offsets ?c_offsets ?k_offsets ?a_bent ?l_bent ?c_bent ?k_bent ?a_tried ?l_tried ?c_tried ?k_tried ?a_listed ?l_listed ?c_listed ?k_listed ?a_known ?l_known ?c_known ?k_known ?a_overlap ?l_overlap ?c_overlap ?k_overlap ?a_wlays ?l_wlays ?c_wlays ?k_wlays ?a_twins ?l_twins ?c_twins ?k_twins ?a_law ?l_law ?c_law ?k_law ?pg ?hd ?po ?sa ?mk ?kc ?nO ?ica ?icn ?ict ?icm ?kS ?pgW ?hdW ?poW ?saW ?mkW ?kcW ?rdW ?gaW ?pgL ?hdL ?poL ?saL ?mkL ?kcL ?nN ?nK ?nA ?nR ?nSt ?nE_ ?icaL ?icnL ?ictL ?icmL ?kSL ?pgTC ?hdTC ?poTC ?saTC ?mkTC ?kcTC ?nSp ?nNu ?nLe ?nOf ?nKn ?sf ?vP ?ox ?ol ?on ?oe ?oz ?e_aX ?e_xX ?e_bX ?e_sX ?e_gX ?e_hX ?e_nX ?e_iX ?e_tX ?e_lX ?e_cX ?e_kX ?e_eX ?e_tyX ?e_dX ?e_scX ?e_aY ?e_xY ?e_bY ?e_sY ?e_gY ?e_hY ?e_nY ?e_iY ?e_tY ?e_lY ?e_cY ?e_kY ?e_eY ?e_tyY ?e_dY ?e_scY ?e_aZ ?e_xZ ?e_bZ ?e_sZ ?e_gZ ?e_hZ ?e_nZ ?e_iZ ?e_tZ ?e_lZ ?e_cZ ?e_kZ ?e_eZ ?e_tyZ ?e_dZ ?e_scZ ?e_w ?kWY ?e_icY ?e_haY ?e_hmY ?kWZ ?e_icZ ?e_haZ ?e_hmZ ?kZN ?nsy ?x_YZ ?kTL ?sTL ?ox2 ?ol2 ?on2 ?oe2 ?oz2 ?n_DIGITS ?n_MOST_DIGITS ?n_GREATEST_SUM ?n_MOST_LOOPS ?n_MOST_BOXES ?n_MOST_ROUNDS ?n_QUIET ?n_TRAIN ?n_KEY ?z_all ?z_any ?z_bool ?z_enumerate ?z_int ?z_isinstance ?z_iter ?z_len ?z_list ?z_max ?z_min ?z_range ?z_repr ?z_set ?z_sorted ?z_str ?z_sum ?z_tuple
    (case axC => k_is)
    (case axW => k_is)
    (case axLa => k_is)
    (case axTr => k_is)
    (case a_is_whole => k_is)
    (case l_is_whole => k_is)
    (case c_is_whole => k_is)
    (case k_is_whole => k_is)
    (case a_check_offset => k_is)
    (case l_check_offset => k_is)
    (case c_check_offset => k_is)
    (case k_check_offset => k_is)
    (case a_init => k_is)
    (case i_init => k_is)
    (case l_init => k_is)
    (case c_init => k_is)
    (case k_init => k_is)
    (case e_init => k_is)
    (case e2_init => k_is)
    (case a_iter => k_is)
    (case i_iter => k_is)
    (case l_iter => k_is)
    (case c_iter => k_is)
    (case k_iter => k_is)
    (case a_len => k_is)
    (case i_len => k_is)
    (case l_len => k_is)
    (case c_len => k_is)
    (case k_len => k_is)
    (case a_contains => k_is)
    (case i_contains => k_is)
    (case l_contains => k_is)
    (case c_contains => k_is)
    (case k_contains => k_is)
    (case a_sub => k_is)
    (case i_sub => k_is)
    (case l_sub => k_is)
    (case c_sub => k_is)
    (case k_sub => k_is)
    (case a_lowest => k_is)
    (case g_lowest => k_is)
    (case t_lowest => k_is)
    (case r_lowest => k_is)
    (case l_lowest => k_is)
    (case c_lowest => k_is)
    (case k_lowest => k_is)
    (case a_swithin => k_is)
    (case i_swithin => k_is)
    (case l_swithin => k_is)
    (case c_swithin => k_is)
    (case k_swithin => k_is)
    (case a_cut => k_is)
    (case i_cut => k_is)
    (case l_cut => k_is)
    (case c_cut => k_is)
    (case k_cut => k_is)
    (case a_is_number => k_is)
    (case l_is_number => k_is)
    (case c_is_number => k_is)
    (case k_is_number => k_is)
    (case a_check_number => k_is)
    (case l_check_number => k_is)
    (case c_check_number => k_is)
    (case k_check_number => k_is)
    (case a_blocks => k_is)
    (case l_blocks => k_is)
    (case c_blocks => k_is)
    (case k_blocks => k_is)
    (case a_row_of => k_is)
    (case l_row_of => k_is)
    (case c_row_of => k_is)
    (case k_row_of => k_is)
    (case a_length_of => k_is)
    (case l_length_of => k_is)
    (case c_length_of => k_is)
    (case k_length_of => k_is)
    (case a_strokes_of => k_is)
    (case l_strokes_of => k_is)
    (case c_strokes_of => k_is)
    (case k_strokes_of => k_is)
    (case a_step_back => k_is)
    (case l_step_back => k_is)
    (case c_step_back => k_is)
    (case k_step_back => k_is)
    (case a_head_of => k_is)
    (case l_head_of => k_is)
    (case c_head_of => k_is)
    (case k_head_of => k_is)
    (case a_train_strokes => k_is)
    (case l_train_strokes => k_is)
    (case c_train_strokes => k_is)
    (case k_train_strokes => k_is)
    (case a_linit => k_is)
    (case i_linit => k_is)
    (case l_linit => k_is)
    (case c_linit => k_is)
    (case k_linit => k_is)
    (case a_facts => k_is)
    (case i_facts => k_is)
    (case l_facts => k_is)
    (case c_facts => k_is)
    (case k_facts => k_is)
    (case a_seq => k_is)
    (case i_seq => k_is)
    (case l_seq => k_is)
    (case c_seq => k_is)
    (case k_seq => k_is)
    (case a_leq => k_is)
    (case i_leq => k_is)
    (case l_leq => k_is)
    (case c_leq => k_is)
    (case k_leq => k_is)
    (case a_tinit => k_is)
    (case i_tinit => k_is)
    (case l_tinit => k_is)
    (case c_tinit => k_is)
    (case k_tinit => k_is)
    (case a_has_foreign => k_is)
    (case i_has_foreign => k_is)
    (case l_has_foreign => k_is)
    (case c_has_foreign => k_is)
    (case k_has_foreign => k_is)
    (case a_good_rounds => k_is)
    (case i_good_rounds => k_is)
    (case l_good_rounds => k_is)
    (case c_good_rounds => k_is)
    (case k_good_rounds => k_is)
    (case a_lays_from => k_is)
    (case i_lays_from => k_is)
    (case l_lays_from => k_is)
    (case c_lays_from => k_is)
    (case k_lays_from => k_is)
    (case a_plain_lays => k_is)
    (case l_plain_lays => k_is)
    (case c_plain_lays => k_is)
    (case k_plain_lays => k_is)
    (case a_shy_lays => k_is)
    (case l_shy_lays => k_is)
    (case c_shy_lays => k_is)
    (case k_shy_lays => k_is)
    (case a_lays => k_is)
    (case l_lays => k_is)
    (case c_lays => k_is)
    (case k_lays => k_is)
    (case a_are_facts_of => k_is)
    (case l_are_facts_of => k_is)
    (case c_are_facts_of => k_is)
    (case k_are_facts_of => k_is)
    (case a_clash => k_is)
    (case l_clash => k_is)
    (case c_clash => k_is)
    (case k_clash => k_is)
    (case a_lay_of => k_is)
    (case l_lay_of => k_is)
    (case c_lay_of => k_is)
    (case k_lay_of => k_is)
    (case a_bag => k_is)
    (case l_bag => k_is)
    (case c_bag => k_is)
    (case k_bag => k_is)
    (case a_draw => k_is)
    (case l_draw => k_is)
    (case c_draw => k_is)
    (case k_draw => k_is)
    (case a_number => k_is)
    (case l_number => k_is)
    (case c_number => k_is)
    (case k_number => k_is)
    (case a_row => k_is)
    (case l_row => k_is)
    (case c_row => k_is)
    (case k_row => k_is)
    (case a_says => k_is)
    (case l_says => k_is)
    (case c_says => k_is)
    (case k_says => k_is)
    (case a_digits => k_is)
    (case l_digits => k_is)
    (case c_digits => k_is)
    (case k_digits => k_is)
    (case a_center => k_is)
    (case l_center => k_is)
    (case c_center => k_is)
    (case k_center => k_is)
    (case a_beside => k_is)
    (case l_beside => k_is)
    (case c_beside => k_is)
    (case k_beside => k_is)
    (case a_boxes => k_is)
    (case l_boxes => k_is)
    (case c_boxes => k_is)
    (case k_boxes => k_is)
    (case a_offsets => k_is)
    (case l_offsets => k_is)
    (case c_offsets => k_is)
    (case k_offsets => k_is)
    (case a_bent => k_is)
    (case l_bent => k_is)
    (case c_bent => k_is)
    (case k_bent => k_is)
    (case a_tried => k_is)
    (case l_tried => k_is)
    (case c_tried => k_is)
    (case k_tried => k_is)
    (case a_listed => k_is)
    (case l_listed => k_is)
    (case c_listed => k_is)
    (case k_listed => k_is)
    (case a_known => k_is)
    (case l_known => k_is)
    (case c_known => k_is)
    (case k_known => k_is)
    (case a_overlap => k_is)
    (case l_overlap => k_is)
    (case c_overlap => k_is)
    (case k_overlap => k_is)
    (case a_wlays => k_is)
    (case l_wlays => k_is)
    (case c_wlays => k_is)
    (case k_wlays => k_is)
    (case a_twins => k_is)
    (case l_twins => k_is)
    (case c_twins => k_is)
    (case k_twins => k_is)
    (case a_law => k_is)
    (case l_law => k_is)
    (case c_law => k_is)
    (case k_law => k_is)
    (case pg => k_is)
    (case hd => k_is)
    (case po => k_is)
    (case sa => k_is)
    (case mk => k_is)
    (case kc => k_is)
    (case nO => k_is)
    (case ica => k_is)
    (case icn => k_is)
    (case ict => k_is)
    (case icm => k_is)
    (case kS => first | k_is | kit_is | (decide +kernel))
    (case pgW => k_is)
    (case hdW => k_is)
    (case poW => k_is)
    (case saW => k_is)
    (case mkW => k_is)
    (case kcW => k_is)
    (case rdW => k_is)
    (case gaW => k_is)
    (case pgL => k_is)
    (case hdL => k_is)
    (case poL => k_is)
    (case saL => k_is)
    (case mkL => k_is)
    (case kcL => k_is)
    (case nN => k_is)
    (case nK => k_is)
    (case nA => k_is)
    (case nR => k_is)
    (case nSt => k_is)
    (case nE_ => k_is)
    (case icaL => k_is)
    (case icnL => k_is)
    (case ictL => k_is)
    (case icmL => k_is)
    (case kSL => first | k_is | kit_is | (decide +kernel))
    (case pgTC => k_is)
    (case hdTC => k_is)
    (case poTC => k_is)
    (case saTC => k_is)
    (case mkTC => k_is)
    (case kcTC => k_is)
    (case nSp => k_is)
    (case nNu => k_is)
    (case nLe => k_is)
    (case nOf => k_is)
    (case nKn => k_is)
    (case sf => k_is)
    (case vP => k_is)
    (case ox => k_is)
    (case ol => k_is)
    (case on => first | rfl | (decide +kernel) | simp)
    (case oe => k_is)
    (case oz => k_is)
    (case e_aX => k_is)
    (case e_xX => k_is)
    (case e_bX => decide +kernel)
    (case e_sX => k_is)
    (case e_gX => k_is)
    (case e_hX => k_is)
    (case e_nX => k_is)
    (case e_iX => k_is)
    (case e_tX => k_is)
    (case e_lX => k_is)
    (case e_cX => k_is)
    (case e_kX => k_is)
    (case e_eX => k_is)
    (case e_tyX => k_is)
    (case e_dX => k_is)
    (case e_scX => first | rfl | k_is)
    (case e_aY => k_is)
    (case e_xY => k_is)
    (case e_bY => decide +kernel)
    (case e_sY => k_is)
    (case e_gY => k_is)
    (case e_hY => k_is)
    (case e_nY => k_is)
    (case e_iY => k_is)
    (case e_tY => k_is)
    (case e_lY => k_is)
    (case e_cY => k_is)
    (case e_kY => k_is)
    (case e_eY => k_is)
    (case e_tyY => k_is)
    (case e_dY => k_is)
    (case e_scY => first | rfl | k_is)
    (case e_aZ => k_is)
    (case e_xZ => k_is)
    (case e_bZ => decide +kernel)
    (case e_sZ => k_is)
    (case e_gZ => k_is)
    (case e_hZ => k_is)
    (case e_nZ => k_is)
    (case e_iZ => k_is)
    (case e_tZ => k_is)
    (case e_lZ => k_is)
    (case e_cZ => k_is)
    (case e_kZ => k_is)
    (case e_eZ => k_is)
    (case e_tyZ => k_is)
    (case e_dZ => k_is)
    (case e_scZ => first | rfl | k_is)
    (case e_w => k_is)
    (case kWY => first | k_is | kit_is | (decide +kernel))
    (case e_icY => k_is)
    (case e_haY => k_is)
    (case e_hmY => k_is)
    (case kWZ => first | k_is | kit_is | (decide +kernel))
    (case e_icZ => k_is)
    (case e_haZ => k_is)
    (case e_hmZ => k_is)
    (case kZN => first | k_is | kit_is | (decide +kernel))
    (case nsy => k_is)
    (case x_YZ => k_is)
    (case kTL => first | k_is | kit_is | (decide +kernel))
    (case sTL => k_is)
    (case ox2 => k_is)
    (case ol2 => k_is)
    (case on2 => first | rfl | (decide +kernel) | simp)
    (case oe2 => k_is)
    (case oz2 => k_is)
    (case n_DIGITS => k_is)
    (case n_MOST_DIGITS => k_is)
    (case n_GREATEST_SUM => k_is)
    (case n_MOST_LOOPS => k_is)
    (case n_MOST_BOXES => k_is)
    (case n_MOST_ROUNDS => k_is)
    (case n_QUIET => k_is)
    (case n_TRAIN => k_is)
    (case n_KEY => k_is)
    (case z_all => k_is)
    (case z_any => k_is)
    (case z_bool => k_is)
    (case z_enumerate => k_is)
    (case z_int => k_is)
    (case z_isinstance => k_is)
    (case z_iter => k_is)
    (case z_len => k_is)
    (case z_list => k_is)
    (case z_max => k_is)
    (case z_min => k_is)
    (case z_range => k_is)
    (case z_repr => k_is)
    (case z_set => k_is)
    (case z_sorted => k_is)
    (case z_str => k_is)
    (case z_sum => k_is)
    (case z_tuple => k_is)
