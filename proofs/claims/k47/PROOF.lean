import PyProof.Rows.All
import Wide.All
import OpenK.AllK
import Wide.FinOn
import HandS.ForMost
import HandS.SlotsOwn
import HandS.Wide
import HandS.IsInst
import HandS.Style
import HandS.Zip
import HandS.Walk
import HandS.Exc
import HandS.TryOnly
import HandS.ExcOwn
import HandS.WordsExc
import HandS.ExcIs
import KE.OsGo
import HandS.Codes
import HandS.Text
import KE.IntTextLaws
import KE.KExcIs
import KE.DataEq
import KE.KTupSum
import HandS.Defaults
import HandS.MakeKw
import HandS.MakeKwOnly
import HandS.ClsMeth
import HandS.Strs
import KE.GoesMore
import HandS.TupAny
import HandS.TupMul
import HandS.TryMany
import HandS.ExcCtx
import HandS.TupSets
import HandS.SetFor
import HandS.OwnIter
import HandS.IterVal
import PyProof.Rows.SortShellAny
import HandS.SortInts
import KE.DataMinMax
import KE.SortData
import KE.DatumOrd
import PyProof.ReprReads
import HandS.StrMore
import KE.KxField
import HandS.FStr
import HandS.Property
import HandS.TupLe
import HandS.Dict
import HandS.Conv
import PySem.Challenge.RW_wheelchorus_k47_whole_pages_of_who_hides
set_option Elab.async false
set_option linter.all false
set_option maxRecDepth 100000
set_option maxHeartbeats 4000000
/-! Numbers as lists of digits, their rows, and where two rows part. -/
namespace Wm
open PySem L2
def codes (ds : List Nat) : List Nat := ds.map (· + 48)
def numS (ds : List Nat) : Str := ⟨(codes ds).toArray⟩
structure Dig (ds : List Nat) : Prop where
  dig : ∀ d ∈ ds, 1 ≤ d ∧ d ≤ 9
structure Num (ds : List Nat) : Prop where
  pos : 1 ≤ ds.length
  len : ds.length ≤ 4
  dig : ∀ d ∈ ds, 1 ≤ d ∧ d ≤ 9
  sum : ds.sum ≤ 24
def blk (d : Nat) : List Int := (List.replicate d [1, 0]).flatten
def rowL : List Nat → List Int
  | [] => [0, 0]
  | d :: ds => blk d ++ ([0, 0] ++ rowL ds)
structure Diff (xs ys : List Int) (k : Nat) (a b : Int) : Prop where
  one : xs[k]? = some a
  two : ys[k]? = some b
  ne : a ≠ b
  eq : ∀ j, j < k → xs[j]? = ys[j]?
theorem Diff.symm {xs ys : List Int} {k : Nat} {a b : Int} (h : Diff xs ys k a b) : Diff ys xs k b a :=
  ⟨h.two, h.one, h.ne.symm, fun j l => (h.eq j l).symm⟩
theorem Diff.cons {xs ys : List Int} {k : Nat} {a b : Int} (z : Int) (h : Diff xs ys k a b) : Diff (z :: xs) (z :: ys) (k + 1) a b := by
  refine ⟨by simpa using h.one, by simpa using h.two, h.ne, fun j l => ?_⟩
  cases j with
  | zero => rfl
  | succ j => simpa using h.eq j (by omega)
theorem Diff.app {xs ys : List Int} {k : Nat} {a b : Int} : ∀ (p : List Int), Diff xs ys k a b → Diff (p ++ xs) (p ++ ys) (p.length + k) a b
  | [], h => by simpa using h
  | z :: p, h => by
    have ih := (Diff.app p h).cons z
    have e : (z :: p).length + k = p.length + k + 1 := by simp only [List.length_cons]; omega
    rw [e]
    exact ih
theorem Diff.uniq {xs ys : List Int} {k l : Nat} {a b c d : Int} (h : Diff xs ys k a b) (g : Diff xs ys l c d) : k = l ∧ a = c ∧ b = d := by
  have e : k = l := by
    rcases Nat.lt_trichotomy k l with x | x | x
    · exact absurd (by have q := g.eq k x; rw [h.one, h.two] at q; exact Option.some.inj q) h.ne
    · exact x
    · exact absurd (by have q := h.eq l x; rw [g.one, g.two] at q; exact Option.some.inj q) g.ne
  subst e
  exact ⟨rfl, Option.some.inj (h.one.symm.trans g.one), Option.some.inj (h.two.symm.trans g.two)⟩
theorem Diff.lt1 {xs ys : List Int} {k : Nat} {a b : Int} (h : Diff xs ys k a b) : k < xs.length := (List.getElem?_eq_some_iff.mp h.one).1
theorem Diff.lt2 {xs ys : List Int} {k : Nat} {a b : Int} (h : Diff xs ys k a b) : k < ys.length := (List.getElem?_eq_some_iff.mp h.two).1
theorem blk_add (d e : Nat) : blk (d + e) = blk d ++ blk e := by
  unfold blk
  rw [← List.replicate_append_replicate, List.flatten_append]
theorem blk_succ (e : Nat) : blk (e + 1) = [1, 0] ++ blk e := by
  rw [Nat.add_comm, blk_add]
  rfl
theorem blk_len (d : Nat) : (blk d).length = 2 * d := by
  induction d with
  | zero => rfl
  | succ d ih => rw [blk_succ, List.length_append, ih]; simp only [List.length_cons, List.length_nil]; omega
theorem row_less (d e : Nat) (ds es : List Nat) (h : d < e) : Diff (rowL (d :: ds)) (rowL (e :: es)) (2 * d) 0 1 := by
  obtain ⟨f, rfl⟩ : ∃ f, e = d + (f + 1) := ⟨e - d - 1, by omega⟩
  have h0 : Diff ([0, 0] ++ rowL ds) ([1, 0] ++ (blk f ++ ([0, 0] ++ rowL es))) 0 0 1 := ⟨rfl, rfl, by decide, fun j l => absurd l (Nat.not_lt_zero _)⟩
  have h1 := h0.app (blk d)
  rw [blk_len, Nat.add_zero] at h1
  have e1 : rowL ((d + (f + 1)) :: es) = blk d ++ ([1, 0] ++ (blk f ++ ([0, 0] ++ rowL es))) := by
    show blk (d + (f + 1)) ++ _ = _
    rw [blk_add, blk_succ, List.append_assoc, List.append_assoc]
  rw [e1]
  exact h1
theorem rows_part : ∀ (ds es : List Nat), (∀ d ∈ ds, 1 ≤ d) → (∀ e ∈ es, 1 ≤ e) →
    ds = es ∨ (∃ k, Diff (rowL ds) (rowL es) k 1 0 ∧ es < ds) ∨ (∃ k, Diff (rowL ds) (rowL es) k 0 1 ∧ ds < es)
  | [], [], _, _ => .inl rfl
  | [], e :: es, _, h => by
    obtain ⟨f, rfl⟩ : ∃ f, e = f + 1 := ⟨e - 1, by have := h e (by simp); omega⟩
    refine .inr (.inr ⟨0, ⟨rfl, ?_, by decide, fun j l => absurd l (Nat.not_lt_zero _)⟩, List.nil_lt_cons _ _⟩)
    show (blk (f + 1) ++ _)[0]? = _
    rw [blk_succ]
    rfl
  | d :: ds, [], h, _ => by
    obtain ⟨f, rfl⟩ : ∃ f, d = f + 1 := ⟨d - 1, by have := h d (by simp); omega⟩
    refine .inr (.inl ⟨0, ⟨?_, rfl, by decide, fun j l => absurd l (Nat.not_lt_zero _)⟩, List.nil_lt_cons _ _⟩)
    show (blk (f + 1) ++ _)[0]? = _
    rw [blk_succ]
    rfl
  | d :: ds, e :: es, h, g => by
    rcases Nat.lt_trichotomy d e with x | x | x
    · exact .inr (.inr ⟨_, row_less d e ds es x, List.cons_lt_cons_iff.mpr (.inl x)⟩)
    · subst x
      rcases rows_part ds es (fun y m => h y (List.mem_cons_of_mem _ m)) (fun y m => g y (List.mem_cons_of_mem _ m)) with q | ⟨k, q, l⟩ | ⟨k, q, l⟩
      · exact .inl (by rw [q])
      · exact .inr (.inl ⟨_, (q.app [0, 0]).app (blk d), List.cons_lt_cons_iff.mpr (.inr ⟨rfl, l⟩)⟩)
      · exact .inr (.inr ⟨_, (q.app [0, 0]).app (blk d), List.cons_lt_cons_iff.mpr (.inr ⟨rfl, l⟩)⟩)
    · exact .inr (.inl ⟨_, (row_less e d es ds x).symm, List.cons_lt_cons_iff.mpr (.inl x)⟩)
theorem codes_lt : ∀ (ds es : List Nat), ds < es → codes ds < codes es
  | [], [], h => absurd h (List.lt_irrefl _)
  | [], _ :: _, _ => List.nil_lt_cons _ _
  | _ :: _, [], h => absurd h (List.not_lt_nil _)
  | d :: ds, e :: es, h => by
    rcases List.cons_lt_cons_iff.mp h with x | ⟨x, y⟩
    · exact List.cons_lt_cons_iff.mpr (.inl (Nat.add_lt_add_right x 48))
    · exact List.cons_lt_cons_iff.mpr (.inr ⟨by rw [x], codes_lt ds es y⟩)
theorem codes_inj : ∀ (ds es : List Nat), codes ds = codes es → ds = es
  | [], [], _ => rfl
  | [], _ :: _, h => by simp [codes] at h
  | _ :: _, [], h => by simp [codes] at h
  | d :: ds, e :: es, h => by
    have h1 : d + 48 = e + 48 := (List.cons.inj h).1
    have h2 : codes ds = codes es := (List.cons.inj h).2
    rw [codes_inj ds es h2, show d = e by omega]
theorem numS_cps (ds : List Nat) : (numS ds).cps.toList = codes ds := rfl
theorem numS_inj {ds es : List Nat} (h : numS ds = numS es) : ds = es := codes_inj _ _ (by rw [← numS_cps, h, numS_cps])
theorem numS_len (ds : List Nat) : (numS ds).length = ds.length := by
  show (codes ds).toArray.size = _
  simp [codes]
theorem lt_asymm' {a b : List Nat} (h : a < b) : ¬ b < a := fun g => List.lt_irrefl _ (List.lt_trans h g)
theorem rowL_le : ∀ ds : List Nat, (∀ d ∈ ds, d ≤ 9) → (rowL ds).length ≤ 20 * ds.length + 2
  | [], _ => by decide
  | d :: ds, h => by
    have ih := rowL_le ds fun y m => h y (List.mem_cons_of_mem _ m)
    have hd := h d (by simp)
    show (blk d ++ ([0, 0] ++ rowL ds)).length ≤ _
    rw [List.length_append, List.length_append, blk_len]
    simp only [List.length_cons, List.length_nil]
    omega
end Wm

/-! Digits as signs, texts of digits cut and joined; what a heap keeps. -/
namespace Wm
open PySem L2
theorem dig_cases {d : Nat} (h : 1 ≤ d ∧ d ≤ 9) : d = 1 ∨ d = 2 ∨ d = 3 ∨ d = 4 ∨ d = 5 ∨ d = 6 ∨ d = 7 ∨ d = 8 ∨ d = 9 := by omega
theorem dig_int {d : Nat} (h : 1 ≤ d ∧ d ≤ 9) : PySem.intText? ⟨#[d + 48]⟩ = some (d : Int) := by
  rcases dig_cases h with e | e | e | e | e | e | e | e | e <;> subst e <;> decide +kernel
theorem dig_in {d : Nat} (h : 1 ≤ d ∧ d ≤ 9) : (d + 48) ∈ ("123456789" : Str).cps.toList := by
  rcases dig_cases h with e | e | e | e | e | e | e | e | e <;> subst e <;> decide +kernel
theorem dig_str {d : Nat} (h : 1 ≤ d ∧ d ≤ 9) : ((toString (d : Int) : String) : Str) = numS [d] := by
  rcases dig_cases h with e | e | e | e | e | e | e | e | e <;> subst e <;> decide +kernel
theorem numS_app (ds es : List Nat) : numS ds ++ numS es = numS (ds ++ es) := by
  refine PyProof.Rows.ext_toList ?_
  show ((numS ds).cps ++ (numS es).cps).toList = _
  rw [Array.toList_append, numS_cps, numS_cps, numS_cps]
  simp [codes]
theorem numS_nil : numS [] = ("" : Str) := by decide +kernel
theorem numS_take (ds : List Nat) (k : Nat) : cutS (numS ds) none (some (k : Int)) = numS (ds.take k) := by
  refine PyProof.Rows.ext_toList ?_
  show ((codes ds).drop 0).take (HT.sIx (numS ds).length (numS ds).length (some (k : Int)) - 0) = codes (ds.take k)
  rw [numS_len, HT.sIx_nat, List.drop_zero, Nat.sub_zero]
  simp only [codes, ← List.map_take]
  congr 1
  rw [List.take_eq_take_iff]
  omega
theorem numS_last (ds : List Nat) : cutS (numS ds) none (some (-1)) = numS ds.dropLast := by
  refine PyProof.Rows.ext_toList ?_
  show ((codes ds).drop 0).take (HT.sIx (numS ds).length (numS ds).length (some (-1)) - 0) = codes ds.dropLast
  rw [numS_len, List.drop_zero, Nat.sub_zero, List.dropLast_eq_take]
  simp only [codes, ← List.map_take]
  have e : HT.sIx ds.length ds.length (some (-1)) = ds.length - 1 := by
    unfold HT.sIx
    simp only [show (-1 : Int) < 0 by decide, if_true]
    omega
  rw [e]
theorem numS_at (ds : List Nat) (i : Nat) (hi : i < ds.length) : (numS ds).cps[i]? = some (ds[i] + 48) := by
  show ((codes ds).toArray)[i]? = _
  simp [codes, hi]
theorem numS_size (ds : List Nat) : (numS ds).cps.size = ds.length := numS_len ds

/-! heaps -/
theorem same_new {H : Hp} {p : Addr} {o : HO} (n : H p = none) : Same H (upd H p o) := fun b u e => by
  rw [upd_ne (ne_of_none e n)]
  exact e
theorem at_old {H : Hp} {p q : Addr} {o u : HO} (h : H p = some o) (n : H q = none) : upd H q u p = some o := by
  rw [upd_ne (ne_of_none h n)]
  exact h
theorem sameT {K : PySem.W.Frag} {H H' : Hp} {a : Addr} {xs : List V} (e : Same H H') (h : SqT K H a xs) : SqT K H' a xs := by
  rcases h with (h | ⟨o, h⟩) | h
  · exact .inl (.inl (e _ _ h))
  · exact .inl (.inr ⟨o, e _ _ h⟩)
  · exact .inr h
/-- what stood stands, but for what H did not know and the object at p, which is new since -/
theorem same_mut {H H' : Hp} {p : Addr} {o : HO} (s : Same H H') (n : H p = none) : Same H (upd H' p o) := fun b u e => by
  rw [upd_ne (ne_of_none e n)]
  exact s b u e
/-- the bag's list at b, its cells at c -/
def Cel (H : Hp) (b c : Addr) : Prop := ∃ x k m z : Int, H b = some (.lst [.int x, .ref c, .int k, .int m, .int z])
structure But (b : Addr) (H H' : Hp) : Prop where
  keep : ∀ p o, p ≠ b → H p = some o → H' p = some o
  cel : ∀ c, Cel H b c → Cel H' b c
instance {b : Addr} {H H' : Hp} : CoeFun (But b H H') (fun _ => ∀ p o, p ≠ b → H p = some o → H' p = some o) := ⟨But.keep⟩
theorem But.refl (b : Addr) (H : Hp) : But b H H := ⟨fun _ _ _ h => h, fun _ h => h⟩
theorem But.trans {b : Addr} {H H1 H2 : Hp} (x : But b H H1) (y : But b H1 H2) : But b H H2 := ⟨fun p o n h => y.keep p o n (x.keep p o n h), fun c h => y.cel c (x.cel c h)⟩
theorem But.of {b : Addr} {H H' : Hp} (s : Same H H') : But b H H' := ⟨fun p o _ h => s p o h, fun _ ⟨x, k, m, z, h⟩ => ⟨x, k, m, z, s _ _ h⟩⟩
theorem But.set {b c : Addr} {H : Hp} {x k m z x' k' m' z' : Int} (hb : H b = some (.lst [.int x, .ref c, .int k, .int m, .int z])) : But b H (upd H b (.lst [.int x', .ref c, .int k', .int m', .int z'])) :=
  ⟨fun p u n h => by
    rw [upd_ne n]
    exact h, fun c2 ⟨a1, a2, a3, a4, h⟩ => by
    rw [hb] at h
    have h := Option.some.inj h
    injection h with h
    injection h with h1 h
    injection h with h2 h
    injection h2 with h2
    subst h2
    exact ⟨x', k', m', z', upd_same⟩⟩
/-- the bag of draws: its cells' list and its four numbers -/
def Bag (H : Hp) (b : Addr) (n : Nat) : Prop :=
  ∃ (c : Addr) (x k m z : Int) (ns : List Int), H b = some (.lst [.int x, .ref c, .int k, .int m, .int z]) ∧ H c = some (.lst (ns.map V.int)) ∧ 0 ≤ k ∧ 0 ≤ m ∧ m ≤ (n : Int)
theorem bag_ne {H : Hp} {b c : Addr} {x k m z : Int} {ns : List Int} (hb : H b = some (.lst [.int x, .ref c, .int k, .int m, .int z])) (hc : H c = some (.lst (ns.map V.int))) : c ≠ b := by
  intro e
  subst e
  rw [hb] at hc
  have q := Option.some.inj hc
  have q2 : ([.int x, .ref c, .int k, .int m, .int z] : List V) = ns.map V.int := by injection q
  cases ns with
  | nil => simp at q2
  | cons u r => cases r with
    | nil => simp at q2
    | cons v r => simp at q2
theorem Bag.mono {H : Hp} {b : Addr} {n m : Nat} (h : Bag H b n) (l : n ≤ m) : Bag H b m := by
  obtain ⟨c, x, k, q, z, ns, h1, h2, h3, h4, h5⟩ := h
  exact ⟨c, x, k, q, z, ns, h1, h2, h3, h4, by omega⟩
theorem Bag.keep {H H' : Hp} {b : Addr} {n : Nat} (h : Bag H b n) (s : Same H H') : Bag H' b n := by
  obtain ⟨c, x, k, q, z, ns, h1, h2, h3, h4, h5⟩ := h
  exact ⟨c, x, k, q, z, ns, s _ _ h1, s _ _ h2, h3, h4, h5⟩
theorem Cel.uniq {H : Hp} {b c d : Addr} (h : Cel H b c) (g : Cel H b d) : c = d := by
  obtain ⟨x, k, m, z, h⟩ := h
  obtain ⟨x', k', m', z', g⟩ := g
  rw [h] at g
  have g := Option.some.inj g
  injection g with g
  injection g with g1 g
  injection g with g2 g
  injection g2
theorem But.put {b D : Addr} {H H' : Hp} {o : HO} (e : But b H H') (n : H D = none) : But b H (upd H' D o) := by
  refine ⟨fun p u pb h => ?_, fun c h => ?_⟩
  · rw [upd_ne (ne_of_none h n)]
    exact e.keep p u pb h
  · have h0 := h
    obtain ⟨x, k, m, z, h⟩ := h
    obtain ⟨x', k', m', z', g⟩ := e.cel c h0
    exact ⟨x', k', m', z', by rw [upd_ne (ne_of_none h n)]; exact g⟩
theorem Bag.put {b D : Addr} {H H' : Hp} {o : HO} {n m : Nat} (bag : Bag H b n) (f : H D = none) (e : But b H H') (bag2 : Bag H' b m) : Bag (upd H' D o) b m := by
  obtain ⟨c, x, k, q, z, ns, h1, h2, h3, h4, h5⟩ := bag
  obtain ⟨c', x', k', q', z', ns', g1, g2, g3, g4, g5⟩ := bag2
  have ec : c = c' := Cel.uniq (e.cel c ⟨x, k, q, z, h1⟩) ⟨x', k', q', z', g1⟩
  subst ec
  exact ⟨c, x', k', q', z', ns', by rw [upd_ne (ne_of_none h1 f)]; exact g1, by rw [upd_ne (ne_of_none h2 f)]; exact g2, g3, g4, g5⟩
end Wm
namespace Wm
open PySem L2
theorem yesT {σ : L2.St} {H : Hp} {A B : Hp → Prop} (h : A H) : tYes σ H (fun b H3 => if b = true then A H3 else B H3) := by
  show (if true = true then A H else B H)
  rw [if_pos rfl]
  exact h
end Wm

/-! row[::2] of a list or a tuple; a loop over a list or a tuple. -/
namespace Hf
open PySem PySem.Spec PyProof.Rows L2
def ev2 {α : Type} : List α → List α
  | [] => []
  | [x] => [x]
  | x :: _ :: r => x :: ev2 r
theorem ev2_le {α : Type} : ∀ xs : List α, (ev2 xs).length ≤ xs.length
  | [] => Nat.le_refl _
  | [_] => Nat.le_refl _
  | x :: y :: r => by
    have ih := ev2_le r
    show (ev2 r).length + 1 ≤ r.length + 2
    omega
theorem ev2_mem {α : Type} {z : α} : ∀ {xs : List α}, z ∈ ev2 xs → z ∈ xs
  | [], h => h
  | [_], h => h
  | x :: y :: r, h => by
    rcases List.mem_cons.mp h with e | e
    · rw [e]; simp
    · exact List.mem_cons_of_mem _ (List.mem_cons_of_mem _ (ev2_mem e))
theorem ev2_map {α β : Type} (f : α → β) : ∀ xs : List α, ev2 (xs.map f) = (ev2 xs).map f
  | [] => rfl
  | [_] => rfl
  | x :: y :: r => by
    show f x :: ev2 (r.map f) = f x :: (ev2 r).map f
    rw [ev2_map f r]
theorem ev2_pick {α : Type} : ∀ xs : List α, (List.range ((xs.length + 1) / 2)).filterMap (fun k => xs[2 * k]?) = ev2 xs
  | [] => by simp [ev2]
  | [x] => by
    rw [show ([x].length + 1) / 2 = 1 by simp, show List.range 1 = [0] by decide]
    simp [ev2]
  | x :: y :: r => by
    have ih := ev2_pick r
    have e : ((x :: y :: r).length + 1) / 2 = (r.length + 1) / 2 + 1 := by
      show (r.length + 1 + 1 + 1) / 2 = _
      omega
    rw [e, List.range_succ_eq_map, List.filterMap_cons]
    show x :: _ = x :: ev2 r
    rw [List.filterMap_map, ← ih]
    rfl
theorem ev2_vals : ∀ {xs : List V} {us : List Value}, Vals xs us → Vals (ev2 xs) (ev2 us)
  | [], _, h => by cases h; exact .nil
  | [x], _, h => by
    cases h with
    | cons a b =>
      cases b
      exact .cons a .nil
  | x :: y :: r, _, h => by
    cases h with
    | cons a b =>
      cases b with
      | cons c d => exact .cons a (ev2_vals d)
theorem pick2 (items : Array Value) : slicePick items none none (some 2) = (ev2 items.toList).toArray := by
  have e := ev2_pick items.toList
  unfold slicePick
  have b : sliceBounds none none (some 2) items.size = (0, (items.size : Int), 2) := by
    first
    | rfl
    | simp [sliceBounds]
  rw [b]
  show ((sliceRange 0 (items.size : Int) 2).filterMap (items[·]?)).toArray = _
  have r : sliceRange 0 (items.size : Int) 2 = (List.range ((items.size + 1) / 2)).map fun k => 2 * k := by
    unfold sliceRange
    have h1 : (2 : Int) > 0 := by decide
    by_cases h : (0 : Int) < (items.size : Int)
    · have e : ((items.size : Int) - 0 + 2 - 1) / 2 = (((items.size + 1) / 2 : Nat) : Int) := by omega
      simp only [h1, if_true, h, e, Int.toNat_natCast]
      apply List.map_congr_left
      intro k _
      omega
    · have e : items.size = 0 := by omega
      simp [e]
  rw [r, List.filterMap_map]
  rw [Array.length_toList] at e
  rw [← e]
  refine congrArg List.toArray (congrArg (fun f => List.filterMap f _) (funext fun k => ?_))
  show items[2 * k]? = _
  rw [Array.getElem?_toList]
section
variable {prog : Program} {w : World} {A : Around} {E : Value → Shared → Prop} {s : Shared}
theorem places2 (n : Nat) : Builtin.Slice.slicePlaces 0 (n : Int) 2 = (n + 1) / 2 := by
  unfold Builtin.Slice.slicePlaces
  have h1 : (2 : Int) > 0 := by omega
  simp only [h1, if_true]
  split <;> omega
theorem adjust2 (n : Nat) : Builtin.Slice.sliceAdjust none none 2 (n : Int) = (0, (n : Int)) := by
  have h1 : ¬ ((2 : Int) < 0) := by omega
  unfold Builtin.Slice.sliceAdjust
  simp only [h1, if_false]
theorem sliceApplied2 {sl : Addr} {t : Tok} {n : Nat} {Q : Int × Int × Nat → Shared → Prop} (hs : s.heap.IsSliceOf sl .none .none (.int 2 t))
    (h : Q (0, 2, (n + 1) / 2) s) : wpAny (model prog w) A (Builtin.Slice.sliceApplied (.ref sl) (pure (n : Int))) Q E s := by
  obtain ⟨os, hos, hcs, hds⟩ := id hs
  unfold Builtin.Slice.sliceApplied Builtin.Slice.sliceFields
  refine wpAny_bind (wpAny_bind (wpAny_field hos hds (x := .none) rfl (wpAny_bind (wpAny_field hos hds (x := .none) rfl (wpAny_bind (wpAny_field hos hds (x := .int 2 t) rfl (wpAny_pure ?_)))))))
  refine wpAny_bind (slicePart_int ?_)
  show wpAny _ _ (if ((2 : Int) == 0) = true then _ else _) _ _ s
  rw [if_neg (by decide)]
  refine wpAny_bind (HT.slicePart_ .none (wpAny_bind (HT.slicePart_ .none (wpAny_bind (wpAny_pure ?_)))))
  show wpAny _ _ (match Builtin.Slice.sliceAdjust none none 2 (n : Int) with | (lo, hi) => pure (lo, (2 : Int), Builtin.Slice.slicePlaces lo hi 2)) _ _ s
  rw [adjust2 n]
  show wpAny _ _ (pure ((0 : Int), (2 : Int), Builtin.Slice.slicePlaces (0 : Int) (n : Int) 2)) _ _ s
  rw [places2]
  exact wpAny_pure h
theorem pick2t (xs : Array Value) : ((List.range ((xs.size + 1) / 2)).filterMap fun (m : Nat) => xs[((0 : Int) + (m : Int) * 2).toNat]?).toArray = (ev2 xs.toList).toArray := by
  have e : (fun (m : Nat) => xs[((0 : Int) + (m : Int) * 2).toNat]?) = fun m => xs.toList[2 * m]? := by
    funext m
    have : ((0 : Int) + (m : Int) * 2).toNat = 2 * m := by omega
    rw [this, Array.getElem?_toList]
  rw [e, ← ev2_pick xs.toList, Array.length_toList]
theorem getItem_tuple_2 {t sl : Addr} {tk : Tok} {items : Array Value} {Q : Value → Shared → Prop} (ht : IsTup s.heap t items) (hs : s.heap.IsSliceOf sl .none .none (.int 2 tk))
    (h : Q (.ref s.heap.objs.size) { s with heap := s.heap.push { cls := .type "tuple", data := .seq (ev2 items.toList).toArray } })
    (hsz : items.size ≤ sizeLine) : wpAny (model prog w) A (getItem (.ref t) (.ref sl)) Q E s := by
  have htake : sizeOk (.seq (ev2 items.toList).toArray) := by
    show (ev2 items.toList).toArray.size ≤ sizeLine
    rw [List.size_toArray]
    exact Nat.le_trans (ev2_le items.toList) (by rw [Array.length_toList]; exact hsz)
  obtain ⟨os, hos, hcs, hds⟩ := id hs
  have hTs : s.TypeIs (.ref sl) "slice" := ⟨os, hos, hcs⟩
  unfold getItem
  try with_reducible refine wpAny_holding ?_
  first | refine wpAny_bind (wpAny_pure ?_) | skip
  refine wpAny_bind (wpAny_sequenceKey ht.typeIs (by decide) ?_)
  refine wpAny_bind (wpAny_callSpecial?_slot (name := Str.ofString "__getitem__") ht.typeIs PyProof.Rows.slot_tuple_getitem
    (wpAny_call_entry PyProof.Rows.slot_tuple_getitem ht.typeIs entry_tuple_getitem ?_ (args_tuple_getitem _ _)))
  show wpAny _ _ (Builtin.Tuple.tupleItemsOf (.ref t) >>= _) _ _ s
  refine wpAny_bind (tupleItemsOf_ ht ?_)
  refine wpAny_bind (wpAny_typeOf hTs ?_)
  rw [if_pos (by decide)]
  refine wpAny_bind (sliceApplied2 hs ?_)
  have hno : ¬ (((0 : Int) == 0 && (2 : Int) == 1 && ((items.size + 1) / 2) == items.size) = true) := by
    intro q
    rw [Bool.and_eq_true, Bool.and_eq_true] at q
    exact absurd q.1.2 (by decide)
  show wpAny _ _ (if ((0 : Int) == 0 && (2 : Int) == 1 && ((items.size + 1) / 2) == items.size) = true then _ else _) _ _ s
  rw [if_neg hno, pick2t]
  first
    | exact wpAny_bind (m := Builtin.Tuple.tupleExact _) (wpAny_newObj_type (wpAny_pure ⟨_, rfl, wpAny_pure h⟩) htake)
    | exact wpAny_bind (m := Builtin.Tuple.tupleExact _) (wpAny_newObj_type (wpAny_bind (wpAny_pure (wpAny_pure ⟨_, rfl, wpAny_pure h⟩))) htake)
    | exact wpAny_bind (wpAny_bind (m := Builtin.Tuple.tupleExact _) (wpAny_newObj_type (wpAny_pure (wpAny_pure ⟨_, rfl, wpAny_pure h⟩)) htake))
    | exact wpAny_bind (wpAny_bind (m := Builtin.Tuple.tupleExact _) (wpAny_newObj_type (wpAny_pure ⟨_, rfl, wpAny_pure h⟩) htake))
end
section
variable {X : Cx}
def tHalf (K : PySem.W.Frag) (te : TE) : TE := fun σ H Q => te σ H fun x H1 => ∃ a xs, x = .ref a ∧ (SqL K H1 a xs ∨ SqT K H1 a xs) ∧
  ∀ p H2, (∀ b o, H1 b = some o → H2 b = some o) → H1 p = none → (SqL K H2 p (ev2 xs) ∨ SqT K H2 p (ev2 xs)) → Q (.ref p) H2
theorem new_same {H : Hp} {p : Addr} {o : HO} (n : H p = none) : ∀ b u, H b = some u → upd H p o b = some u := fun b u e => by
  rw [upd_ne (ne_of_none e n)]
  exact e
theorem pe_half {e : Expr} {te : TE} {k : Nat} {p1 p3 pos : Pos} (he : PE X e te) : PE X (.Subscript e (.Slice none none (some (.Constant (.int 2) k p1)) p3) pos) (tHalf X.K te) := by
  refine ⟨fun pins s σ H Q I h => ?_⟩
  refine Subscript_ (thn (he.run pins s σ H _ I h) fun v s1 ⟨x, H1, I1, r1, q1⟩ => ?_)
  obtain ⟨a, xs, ex, hq, q⟩ := q1
  subst ex
  cases r1
  have hst : PO X (some (.Constant (.int 2) k p1)) (tPart (tC (.int 2))) := po_some pe_int
  refine wpAny_Slice (thn (po_none.run pins s1 σ H1 (fun o H2 => o = none ∧ H2 = H1) I1 ⟨rfl, rfl⟩) fun vl s2 ⟨l, H2, I2, pl, el, e2⟩ => ?_)
  subst el e2
  refine thn (po_none.run pins s2 σ H2 (fun o H3 => o = none ∧ H3 = H2) I2 ⟨rfl, rfl⟩) fun vu s3 ⟨u, H3, I3, pu, eu, e3⟩ => ?_
  subst eu e3
  refine thn (hst.run pins s3 σ H3 (fun o H4 => o = some 2 ∧ H4 = H3) I3 ⟨2, rfl, rfl, rfl⟩) fun vs s4 ⟨o, H4, I4, ps, eo, e4⟩ => ?_
  subst eo e4
  have I5 : Inv X pins σ H4 { s4 with heap := s4.heap.push { cls := .type "slice", data := .fields #[vl, vu, vs] } } := I4.kept (t' := s4.toks) fun b ob q => Heap.get?_push_of_some _ q
  rcases hq with hx | hx
  · obtain ⟨its, r, ht, hz⟩ := I5.list hx
    have hlen := r.length
    show wpAny (model X.prog X.w) X.A (subscriptTail e (.Slice none none (some (.Constant (.int 2) k p1)) p3) (.ref a) (.ref s4.heap.objs.size)) (EP X pins σ Q) X.xe { s4 with heap := s4.heap.push { cls := .type "slice", data := .fields #[vl, vu, vs] } }
    refine tail_any (ops := [.ref a, .ref s4.heap.objs.size]) ht.isList.typeIs (PySem.slot_list_getitem.lookup) ?_ (by with_unfolding_all rfl)
    refine wpAny_getItem_list_slice ht.isList (Heap.IsSliceOf.new _ vl vu vs) pl pu ps (by decide) ?_ (by rw [List.size_toArray]; omega)
    rw [pick2]
    refine ⟨.ref _, _, I5.laid (t' := s4.toks) (o := .lst (ev2 xs)) (fun b ob q => Heap.get?_push_of_some _ q) (Nat.le_refl _) ?_, rfl, q _ _ (new_same (I5.hok.fresh (Nat.le_refl _))) (I5.hok.fresh (Nat.le_refl _)) (.inl (SqL.of upd_same))⟩
    exact ⟨Nat.le_trans (ev2_le xs) hz, _, 0, ev2_vals r, Heap.get?_push_size _ rfl⟩
  · obtain ⟨its, r, ht, hz⟩ := I5.tuple hx
    have hlen := r.length
    cases pl
    cases pu
    cases ps
    show wpAny (model X.prog X.w) X.A (subscriptTail e (.Slice none none (some (.Constant (.int 2) k p1)) p3) (.ref a) (.ref s4.heap.objs.size)) (EP X pins σ Q) X.xe { s4 with heap := s4.heap.push { cls := .type "slice", data := .fields #[Value.none, Value.none, .int 2 _] } }
    refine tail_any (ops := [.ref a, .ref s4.heap.objs.size]) ht.typeIs (PyProof.Rows.slot_tuple_getitem.lookup) ?_ (by with_unfolding_all rfl)
    refine getItem_tuple_2 ht (Heap.IsSliceOf.new _ _ _ _) ?_ (by rw [List.size_toArray]; omega)
    refine ⟨.ref _, _, I5.laid (t' := s4.toks) (o := .tup (ev2 xs)) (fun b ob q => Heap.get?_push_of_some _ q) (Nat.le_refl _) ?_, rfl, q _ _ (new_same (I5.hok.fresh (Nat.le_refl _))) (I5.hok.fresh (Nat.le_refl _)) (.inr (SqT.of upd_same))⟩
    exact ⟨Nat.le_trans (ev2_le xs) hz, _, ev2_vals r, IsTup.new _ _⟩
theorem keepL {K : PySem.W.Frag} {H H' : Hp} {a : Addr} {xs : List V} (e : Same H H') (h : SqL K H a xs) : SqL K H' a xs := by
  rcases h with (h | ⟨o, h⟩) | h
  · exact .inl (.inl (e _ _ h))
  · exact .inl (.inr ⟨o, e _ _ h⟩)
  · exact .inr h
theorem keepT {K : PySem.W.Frag} {H H' : Hp} {a : Addr} {xs : List V} (e : Same H H') (h : SqT K H a xs) : SqT K H' a xs := by
  rcases h with (h | ⟨o, h⟩) | h
  · exact .inl (.inl (e _ _ h))
  · exact .inl (.inr ⟨o, e _ _ h⟩)
  · exact .inr h
def iSeq (K : PySem.W.Frag) (tl : TE) : TI := fun σ H R => tl σ H fun x H1 => ∃ a xs, x = .ref a ∧ (SqL K H1 a xs ∨ SqT K H1 a xs) ∧
  ∀ J G, Walk J xs.length G (YAt xs) → (∀ H', Same H1 H' → G H') → R J H1
theorem pi_seq {tg l : Expr} {tl : TE} (hl : PE X l tl) : PI X tg l (iSeq X.K tl) := by
  refine ⟨fun pins s σ H R I h => ?_⟩
  refine thn (hl.run pins s σ H _ I h) fun v s1 ⟨x, H1, I1, r1, q1⟩ => ?_
  obtain ⟨a, xs, e, hq, q⟩ := q1
  subst e
  cases r1
  rcases hq with hq | hq
  · have q := q _ _ walk_list fun H' s => keepL s hq
    obtain ⟨its, rv, p, hz⟩ := I1.list hq
    refine wpAny_pyIter_list p.isList ?_
    refine ⟨s1.heap.objs.size, [s1.heap.objs.size], _, _, H1, rfl, I1.kept (t' := s1.toks) fun b o e => Heap.get?_push_of_some _ e, turn_list a _, ⟨_, Heap.get?_push_size _ rfl, rfl, rfl⟩, fun b hb => ?_, q⟩
    have e : b = s1.heap.objs.size := by simpa using hb
    subst e
    exact I1.fpOk (Nat.le_refl _) (I1.hok.fresh (Nat.le_refl _))
  · have q := q _ _ walk_tup fun H' s => keepT s hq
    obtain ⟨its, rv, p, hz⟩ := I1.tuple hq
    refine wpAny_pyIter_tuple (show s1.heap.IsTuple a its.toArray from p) ?_
    refine ⟨s1.heap.objs.size, [s1.heap.objs.size], _, _, H1, rfl, I1.kept (t' := s1.toks) fun b o e => Heap.get?_push_of_some _ e, turn_tuple a _, ⟨_, Heap.get?_push_size _ rfl, rfl, rfl⟩, fun b hb => ?_, q⟩
    have e : b = s1.heap.objs.size := by simpa using hb
    subst e
    exact I1.fpOk (Nat.le_refl _) (I1.hok.fresh (Nat.le_refl _))
end
end Hf

/-! Rows read back: strokes, steps, groups. -/
namespace Wm
open PySem L2 TL
/-- the rows of the first digits, without the two ticks at the end -/
def pre : List Nat → List Int
  | [] => []
  | d :: ds => blk d ++ ([0, 0] ++ pre ds)
theorem pre_app : ∀ (ds : List Nat) (d : Nat), pre (ds ++ [d]) = pre ds ++ (blk d ++ [0, 0])
  | [], d => by show blk d ++ ([0, 0] ++ []) = [] ++ _; simp
  | e :: ds, d => by
    show blk e ++ ([0, 0] ++ pre (ds ++ [d])) = (blk e ++ ([0, 0] ++ pre ds)) ++ _
    rw [pre_app ds d]
    simp only [List.append_assoc]
theorem pre_row : ∀ ds : List Nat, pre ds ++ [0, 0] = rowL ds
  | [] => rfl
  | d :: ds => by
    show (blk d ++ ([0, 0] ++ pre ds)) ++ _ = blk d ++ ([0, 0] ++ rowL ds)
    rw [← pre_row ds]
    simp only [List.append_assoc]
theorem blk_V (d : Nat) : (List.replicate d [V.int 1, V.int 0]).flatten = (blk d).map V.int := by
  unfold blk
  rw [List.map_flatten, List.map_replicate]
  rfl
theorem pre_le : ∀ ds : List Nat, (∀ d ∈ ds, d ≤ 9) → (pre ds).length ≤ 20 * ds.length
  | [], _ => by decide
  | d :: ds, h => by
    have ih := pre_le ds fun y m => h y (List.mem_cons_of_mem _ m)
    have hd := h d (by simp)
    show (blk d ++ ([0, 0] ++ pre ds)).length ≤ _
    rw [List.length_append, List.length_append, blk_len]
    simp only [List.length_cons, List.length_nil]
    omega
theorem take_succ_app {α : Type} {l : List α} {i : Nat} {x : α} (h : l[i]? = some x) : l.take (i + 1) = l.take i ++ [x] := by
  rw [List.take_add_one, h]
  rfl
theorem take_succ_map {α β : Type} {l : List α} {i : Nat} {x : α} (f : α → β) (h : l[i]? = some x) : (l.take i).map f ++ [f x] = (l.take (i + 1)).map f := by
  rw [take_succ_app h, List.map_append]
  rfl
theorem row_sum : ∀ ds : List Nat, (rowL ds).length = 2 * (ds.sum + ds.length + 1)
  | [] => rfl
  | d :: ds => by
    have ih := row_sum ds
    show (blk d ++ ([0, 0] ++ rowL ds)).length = _
    rw [List.length_append, List.length_append, blk_len, ih, List.sum_cons]
    simp only [List.length_cons, List.length_nil]
    omega
theorem row_le (ds : List Nat) (N : Num ds) : (rowL ds).length ≤ 100 := by
  have h := rowL_le ds fun d m => (N.dig d m).2
  have l := N.len
  omega
theorem row_bits : ∀ (ds : List Nat) (z : Int), z ∈ rowL ds → z = 0 ∨ z = 1
  | [], z, h => by
    have h : z ∈ [0, 0] := h
    simp only [List.mem_cons, List.not_mem_nil, or_false, or_self] at h
    exact .inl h
  | d :: ds, z, h => by
    have h : z ∈ blk d ++ ([0, 0] ++ rowL ds) := h
    rw [List.mem_append, List.mem_append] at h
    rcases h with h | h | h
    · obtain ⟨l, hl, hz⟩ := List.mem_flatten.mp h
      rw [(List.mem_replicate.mp hl).2] at hz
      simp only [List.mem_cons, List.not_mem_nil, or_false] at hz
      exact hz.symm
    · simp only [List.mem_cons, List.not_mem_nil, or_false, or_self] at h
      exact .inl h
    · exact row_bits ds z h
/-! strokes -/
def ones : Nat → List Int → List Nat
  | _, [] => []
  | o, x :: xs => if x = 1 then o :: ones (o + 1) xs else ones (o + 1) xs
theorem ones_app : ∀ (a : List Int) (o : Nat) (b : List Int), ones o (a ++ b) = ones o a ++ ones (o + a.length) b
  | [], o, b => rfl
  | x :: a, o, b => by
    have ih := ones_app a (o + 1) b
    have e : o + (x :: a).length = o + 1 + a.length := by rw [List.length_cons]; omega
    rw [e]
    show (if x = 1 then o :: ones (o + 1) (a ++ b) else ones (o + 1) (a ++ b)) = (if x = 1 then o :: ones (o + 1) a else ones (o + 1) a) ++ _
    rw [ih]
    by_cases c : x = 1
    · rw [if_pos c, if_pos c]; rfl
    · rw [if_neg c, if_neg c]
theorem ones_mem : ∀ (xs : List Int) (o k : Nat), k ∈ ones o xs ↔ ∃ j, k = o + j ∧ xs[j]? = some 1
  | [], o, k => by simp [ones]
  | x :: xs, o, k => by
    have ih := ones_mem xs (o + 1) k
    show k ∈ (if x = 1 then o :: ones (o + 1) xs else ones (o + 1) xs) ↔ _
    constructor
    · intro h
      by_cases c : x = 1
      · rw [if_pos c] at h
        rcases List.mem_cons.mp h with e | e
        · exact ⟨0, by omega, by rw [c]; rfl⟩
        · obtain ⟨j, e1, e2⟩ := ih.mp e
          exact ⟨j + 1, by omega, by simpa using e2⟩
      · rw [if_neg c] at h
        obtain ⟨j, e1, e2⟩ := ih.mp h
        exact ⟨j + 1, by omega, by simpa using e2⟩
    · rintro ⟨j, e1, e2⟩
      cases j with
      | zero =>
        have c : x = 1 := Option.some.inj e2
        rw [if_pos c]
        exact List.mem_cons.mpr (.inl (by omega))
      | succ j =>
        have m : k ∈ ones (o + 1) xs := ih.mpr ⟨j, by omega, by simpa using e2⟩
        by_cases c : x = 1
        · rw [if_pos c]; exact List.mem_cons_of_mem _ m
        · rw [if_neg c]; exact m
theorem ones_blk (o d : Nat) : ones o (blk (d + 1)) = ones o (blk d) ++ [o + 2 * d] := by
  rw [blk_add, ones_app, blk_len]
  rfl
theorem ones_end (a : List Int) (o : Nat) : ones o (a ++ [0, 0]) = ones o a := by
  rw [ones_app]
  show ones o a ++ [] = _
  rw [List.append_nil]
theorem step2 (s : List Nat) (d : Nat) : ones 0 (pre s ++ blk (d + 1)) = ones 0 (pre s ++ blk d) ++ [(pre s).length + 2 * d] := by
  rw [ones_app, ones_app, ones_blk, List.append_assoc, Nat.zero_add]
theorem step4 (s : List Nat) (d : Nat) : ones 0 (pre (s ++ [d]) ++ blk 1) = ones 0 (pre s ++ blk d) ++ [(pre s).length + 2 * d + 2] := by
  rw [ones_app, pre_app, ← List.append_assoc, ones_end]
  have e : ((pre s ++ blk d) ++ ([0, 0] : List Int)).length = (pre s).length + 2 * d + 2 := by
    rw [List.length_append, List.length_append, blk_len]
    rfl
  rw [e, Nat.zero_add]
  rfl
theorem ones_row (s : List Nat) (d : Nat) : ones 0 (rowL (s ++ [d])) = ones 0 (pre s ++ blk d) := by
  rw [← pre_row, pre_app, ← List.append_assoc, ones_end, ones_end]
theorem ones_inj {ds es : List Nat} (h1 : ∀ d ∈ ds, 1 ≤ d) (h2 : ∀ e ∈ es, 1 ≤ e) (h : ones 0 (rowL ds) = ones 0 (rowL es)) : ds = es := by
  rcases rows_part ds es h1 h2 with q | ⟨k, q, _⟩ | ⟨k, q, _⟩
  · exact q
  · have m : k ∈ ones 0 (rowL ds) := (ones_mem _ _ _).mpr ⟨k, by omega, q.one⟩
    rw [h] at m
    obtain ⟨j, e1, e2⟩ := (ones_mem _ _ _).mp m
    rw [show j = k by omega, q.two] at e2
    cases e2
  · have m : k ∈ ones 0 (rowL es) := (ones_mem _ _ _).mpr ⟨k, by omega, q.two⟩
    rw [← h] at m
    obtain ⟨j, e1, e2⟩ := (ones_mem _ _ _).mp m
    rw [show j = k by omega, q.one] at e2
    cases e2
def St (l : List Nat) : Prop := ∀ (k a b : Nat), l[k]? = some a → l[k + 1]? = some b → b = a + 2 ∨ b = a + 4
theorem St.cons {x : Nat} {l : List Nat} (h : ∀ y, l.head? = some y → y = x + 2 ∨ y = x + 4) (s : St l) : St (x :: l) := by
  intro k a b e1 e2
  cases k with
  | zero =>
    have e : x = a := Option.some.inj e1
    subst e
    refine h b ?_
    rw [List.head?_eq_getElem?]
    exact e2
  | succ k => exact s k a b (by simpa using e1) (by simpa using e2)
theorem steps_blk {l : List Int} (hl : ∀ o, St (ones o l) ∧ ∀ y, (ones o l).head? = some y → y = o) : ∀ (d o : Nat), St (ones o (blk d ++ ([0, 0] ++ l))) ∧ ∀ y, (ones o (blk d ++ ([0, 0] ++ l))).head? = some y → (y = o ∨ y = o + 2)
  | 0, o => by
    have h := hl (o + 2)
    exact ⟨h.1, fun y e => .inr (h.2 y e)⟩
  | d + 1, o => by
    have ih := steps_blk hl d (o + 2)
    have e : ones o (blk (d + 1) ++ ([0, 0] ++ l)) = o :: ones (o + 2) (blk d ++ ([0, 0] ++ l)) := by
      rw [blk_succ]
      rfl
    rw [e]
    refine ⟨ih.1.cons fun y q => ?_, fun y q => .inl (Option.some.inj q).symm⟩
    rcases ih.2 y q with z | z
    · exact .inl z
    · exact .inr (by omega)
theorem steps_row : ∀ (es : List Nat), (∀ d ∈ es, 1 ≤ d) → ∀ o, St (ones o (rowL es)) ∧ ∀ y, (ones o (rowL es)).head? = some y → y = o
  | [], _, o => ⟨fun k a b (e : (none : Option Nat) = some a) => (by cases e), fun y (e : (none : Option Nat) = some y) => by cases e⟩
  | d :: es, h, o => by
    have ih := steps_row es fun y m => h y (List.mem_cons_of_mem _ m)
    obtain ⟨f, rfl⟩ : ∃ f, d = f + 1 := ⟨d - 1, by have := h d (by simp); omega⟩
    have q := steps_blk ih (f + 1) o
    refine ⟨q.1, fun y e => ?_⟩
    have e' : ones o (rowL ((f + 1) :: es)) = o :: ones (o + 2) (blk f ++ ([0, 0] ++ rowL es)) := by
      show ones o (blk (f + 1) ++ _) = _
      rw [blk_succ]
      rfl
    rw [e'] at e
    exact (Option.some.inj e).symm
theorem first_row (d : Nat) (es : List Nat) (h : 1 ≤ d) : (ones 0 (rowL (d :: es)))[0]? = some 0 := by
  obtain ⟨f, rfl⟩ : ∃ f, d = f + 1 := ⟨d - 1, by omega⟩
  show (ones 0 (blk (f + 1) ++ _))[0]? = _
  rw [blk_succ]
  rfl
/-! groups -/
def gaps : List Int → List Nat
  | [] => [0]
  | z :: zs => if z = 1 then (match gaps zs with | [] => [1] | g :: gs => (g + 1) :: gs) else 0 :: gaps zs
theorem gaps_ne : ∀ zs, gaps zs ≠ []
  | [] => by simp [gaps]
  | z :: zs => by
    show (if z = 1 then (match gaps zs with | [] => [1] | g :: gs => (g + 1) :: gs) else 0 :: gaps zs) ≠ []
    by_cases c : z = 1
    · rw [if_pos c]
      split <;> simp
    · rw [if_neg c]; simp
def bits (zs : List Int) : List Nat := zs.map fun z => if z = 1 then 49 else 48
theorem joinL_cons {s : List Nat} {p : List Nat} {ps : List (List Nat)} (h : ps ≠ []) : joinL s (p :: ps) = p ++ (s ++ joinL s ps) := by
  cases ps with
  | nil => exact absurd rfl h
  | cons q r => rfl
theorem joinL_one (s p : List Nat) : joinL s [p] = p := rfl
theorem map_ne {α β : Type} {f : α → β} {l : List α} (h : l ≠ []) : l.map f ≠ [] := fun e => h (List.map_eq_nil_iff.mp e)
theorem gaps_join : ∀ zs, bits zs = joinL [48] ((gaps zs).map fun g => List.replicate g 49)
  | [] => rfl
  | z :: zs => by
    have ih := gaps_join zs
    have ne := gaps_ne zs
    show (if z = 1 then 49 else 48) :: bits zs = joinL [48] ((if z = 1 then (match gaps zs with | [] => [1] | g :: gs => (g + 1) :: gs) else 0 :: gaps zs).map _)
    by_cases c : z = 1
    · rw [if_pos c, if_pos c]
      cases e : gaps zs with
      | nil => exact absurd e ne
      | cons g gs =>
        rw [e] at ih
        rw [ih]
        cases gs with
        | nil => rfl
        | cons g2 gs => rfl
    · rw [if_neg c, if_neg c, List.map_cons, joinL_cons (map_ne ne), ← ih]
      rfl
theorem gaps_sum : ∀ zs, (gaps zs).sum ≤ zs.length ∧ (gaps zs).length ≤ zs.length + 1
  | [] => by decide
  | z :: zs => by
    have ih := gaps_sum zs
    show (if z = 1 then (match gaps zs with | [] => [1] | g :: gs => (g + 1) :: gs) else 0 :: gaps zs).sum ≤ zs.length + 1 ∧ (if z = 1 then (match gaps zs with | [] => [1] | g :: gs => (g + 1) :: gs) else 0 :: gaps zs).length ≤ zs.length + 1 + 1
    by_cases c : z = 1
    · rw [if_pos c]
      cases e : gaps zs with
      | nil => exact absurd e (gaps_ne zs)
      | cons g gs =>
        rw [e, List.sum_cons, List.length_cons] at ih
        show ((g + 1) :: gs).sum ≤ _ ∧ ((g + 1) :: gs).length ≤ _
        rw [List.sum_cons, List.length_cons]
        omega
    · rw [if_neg c, List.sum_cons, List.length_cons]
      omega
theorem mem_sum {g : Nat} : ∀ {l : List Nat}, g ∈ l → g ≤ l.sum
  | a :: l, h => by
    rw [List.sum_cons]
    rcases List.mem_cons.mp h with e | e
    · omega
    · have := mem_sum e
      omega
theorem gaps_le {zs : List Int} {g : Nat} (h : g ∈ gaps zs) : g ≤ zs.length := by
  have h1 := (gaps_sum zs).1
  have h2 : g ≤ (gaps zs).sum := mem_sum h
  omega
theorem ev2_row : ∀ ds, Hf.ev2 (rowL ds) = (match ds with | [] => [0] | d :: r => List.replicate d 1 ++ (0 :: Hf.ev2 (rowL r)))
  | [] => rfl
  | d :: r => by
    show Hf.ev2 (blk d ++ ([0, 0] ++ rowL r)) = List.replicate d 1 ++ (0 :: Hf.ev2 (rowL r))
    induction d with
    | zero => rfl
    | succ d ih =>
      rw [blk_succ, List.replicate_succ]
      show (1 : Int) :: Hf.ev2 (blk d ++ ([0, 0] ++ rowL r)) = _
      rw [ih]
      rfl
theorem gaps_rep (l : List Int) (d : Nat) : gaps (List.replicate d 1 ++ (0 :: l)) = d :: gaps l := by
  induction d with
  | zero => rfl
  | succ d ih =>
    rw [List.replicate_succ]
    show (if (1 : Int) = 1 then (match gaps (List.replicate d 1 ++ (0 :: l)) with | [] => [1] | g :: gs => (g + 1) :: gs) else _) = _
    rw [if_pos rfl, ih]
theorem gaps_row : ∀ ds, gaps (Hf.ev2 (rowL ds)) = ds ++ [0, 0]
  | [] => rfl
  | d :: r => by
    rw [ev2_row]
    show gaps (List.replicate d 1 ++ (0 :: Hf.ev2 (rowL r))) = _
    rw [gaps_rep, gaps_row r]
    rfl
end Wm

/-! Ticks of bent rows as data. -/
namespace Wm
open PySem L2
inductive Tk : PyData → Prop
  | int {i : Int} : i.natAbs < 1000000 → Tk (.int i)
  | bl (b : Bool) : Tk (.bool b)
  | non : Tk .none
  | one : Tk (.str "1")
  | lst : Tk (.list [.int 0])
def Item (K : PySem.W.Frag) (H : Hp) (x : V) : Prop := ∃ d, Dp K H x d ∧ Tk d
theorem sqL_keep {K : PySem.W.Frag} {H H' : Hp} {a : Addr} {xs : List V} (e : Same H H') (h : SqL K H a xs) : SqL K H' a xs := by
  rcases h with (h | ⟨o, h⟩) | h
  · exact .inl (.inl (e _ _ h))
  · exact .inl (.inr ⟨o, e _ _ h⟩)
  · exact .inr h
theorem tk_keep {K : PySem.W.Frag} {H H' : Hp} {x : V} {d : PyData} (e : Same H H') (h : Dp K H x d) (t : Tk d) : Dp K H' x d := by
  cases t with
  | int _ => cases h; exact .int _
  | bl b => cases h; exact .bl _
  | non => cases h; exact .non
  | one => cases h; exact .str _
  | lst =>
    cases h with
    | lst q a =>
      refine .lst (sqL_keep e q) ?_
      cases a with
      | cons b c =>
        cases b
        cases c
        exact .cons (.int _) .nil
theorem Item.keep {K : PySem.W.Frag} {H H' : Hp} {x : V} (e : Same H H') (h : Item K H x) : Item K H' x := let ⟨d, a, b⟩ := h; ⟨d, tk_keep e a b, b⟩
theorem tks_keep {K : PySem.W.Frag} {H H' : Hp} (e : Same H H') : ∀ {xs : List V} {ds : List PyData}, DpAll K H xs ds → (∀ d ∈ ds, Tk d) → DpAll K H' xs ds
  | _, _, .nil, _ => .nil
  | _, _, .cons a b, t => .cons (tk_keep e a (t _ (by simp))) (tks_keep e b fun d m => t d (List.mem_cons_of_mem _ m))
theorem items_data {K : PySem.W.Frag} {H : Hp} : ∀ {xs : List V}, (∀ x ∈ xs, Item K H x) → ∃ ds, DpAll K H xs ds ∧ (∀ d ∈ ds, Tk d) ∧ ds.length = xs.length
  | [], _ => ⟨[], .nil, by simp, rfl⟩
  | x :: xs, h => by
    obtain ⟨d, a, b⟩ := h x (by simp)
    obtain ⟨ds, c1, c2, c3⟩ := items_data (xs := xs) fun y m => h y (List.mem_cons_of_mem _ m)
    refine ⟨d :: ds, .cons a c1, fun y m => ?_, by rw [List.length_cons, List.length_cons, c3]⟩
    rcases List.mem_cons.mp m with q | q
    · rw [q]; exact b
    · exact c2 y q
theorem item_int {K : PySem.W.Frag} {H : Hp} {i : Int} (h : i.natAbs < 1000000) : Item K H (.int i) := ⟨_, .int i, .int h⟩
theorem tk_lay {d : PyData} (t : Tk d) : d.canLay0 = true ∧ d.depth ≤ 1 := by
  cases t with
  | int _ => exact ⟨by simp [PyData.canLay0], by simp [PyData.depth]⟩
  | bl b => exact ⟨by simp [PyData.canLay0], by simp [PyData.depth]⟩
  | non => exact ⟨by simp [PyData.canLay0], by simp [PyData.depth]⟩
  | one => exact ⟨by decide +kernel, by simp [PyData.depth]⟩
  | lst => exact ⟨by simp [PyData.canLay0, PyData.canLayAll0], by simp [PyData.depth, PyData.depthAll]⟩
theorem tks_lay : ∀ {ds : List PyData}, (∀ d ∈ ds, Tk d) → PyData.canLayAll0 ds = true ∧ PyData.depthAll ds ≤ 1
  | [], _ => by simp [PyData.canLayAll0, PyData.depthAll]
  | d :: ds, h => by
    have h1 := tk_lay (h d (by simp))
    have h2 := tks_lay (ds := ds) fun y m => h y (List.mem_cons_of_mem _ m)
    simp only [PyData.canLayAll0, PyData.depthAll, h1.1, h2.1, Bool.and_self, true_and]
    omega
theorem tks_shaped {ds : List PyData} (h : ∀ d ∈ ds, Tk d) : SeqAt.shaped (.list ds) = true := by
  have q := tks_lay h
  have e : decide ((PyData.list ds).depth ≤ 64) = true := decide_eq_true (by simp only [PyData.depth]; omega)
  show ((PyData.list ds).canLay0 && _) = true
  rw [e, Bool.and_true]
  exact q.1
theorem tk_show {d : PyData} (t : Tk d) : d.showable = true ∧ d.hasDict = false ∧ d.leavesShort 13 = true ∧ d.weight ≤ 30 := by
  cases t with
  | @int i h =>
    have hl : i.natAbs.log2 < 20 ∨ i = 0 := by
      by_cases z : i = 0
      · exact .inr z
      · exact .inl ((Nat.log2_lt (by omega)).mpr (by omega))
    refine ⟨decide_eq_true ?_, rfl, decide_eq_true (PyData.shown_int_le (by omega)), ?_⟩
    · rcases hl with z | z
      · omega
      · subst z; decide
    · rcases hl with z | z
      · simp only [PyData.weight]; split <;> omega
      · subst z; decide
  | bl b => exact ⟨rfl, rfl, rfl, by simp [PyData.weight]⟩
  | non => exact ⟨rfl, rfl, rfl, by simp [PyData.weight]⟩
  | one => exact ⟨rfl, rfl, by decide +kernel, by decide +kernel⟩
  | lst => exact ⟨by decide +kernel, rfl, by decide +kernel, by decide +kernel⟩
theorem tks_show : ∀ {ds : List PyData}, (∀ d ∈ ds, Tk d) → PyData.showableAll ds = true ∧ PyData.hasDictAll ds = false ∧ PyData.leavesShortAll 13 ds = true ∧ PyData.weightAll ds ≤ 31 * ds.length
  | [], _ => by simp [PyData.showableAll, PyData.hasDictAll, PyData.leavesShortAll, PyData.weightAll]
  | d :: ds, h => by
    have h1 := tk_show (h d (by simp))
    have h2 := tks_show (ds := ds) fun y m => h y (List.mem_cons_of_mem _ m)
    simp only [PyData.showableAll, PyData.hasDictAll, PyData.leavesShortAll, PyData.weightAll, h1.1, h1.2.1, h1.2.2.1, h2.1, h2.2.1, h2.2.2.1, Bool.and_self, Bool.or_self, true_and, List.length_cons]
    omega
theorem tks_shown {ds : List PyData} (h : ∀ d ∈ ds, Tk d) (l : ds.length ≤ 1000) : (PyData.list ds).shown.length ≤ sizeLine :=
  PyData.shown_fits (B := 13) (by decide) (by decide) (tks_show h).2.2.1 (Nat.le_trans (tks_show h).2.2.2 (by omega))
def isI : V → Bool
  | .int _ => true
  | _ => false
def isBit (x : V) : Bool := decide (x = .int 0) || decide (x = .int 1)
theorem all_ints {xs : List V} (h : ∀ x ∈ xs, isI x = true) : ∃ zs : List Int, xs = zs.map V.int := by
  induction xs with
  | nil => exact ⟨[], rfl⟩
  | cons x xs ih =>
    obtain ⟨zs, e⟩ := ih fun y m => h y (List.mem_cons_of_mem _ m)
    have hx := h x (by simp)
    cases x with
    | int i => exact ⟨i :: zs, by rw [e]; rfl⟩
    | _ => cases hx
theorem all_bits {xs : List V} (h : ∀ x ∈ xs, isBit x = true) : ∃ zs : List Int, xs = zs.map V.int ∧ ∀ z ∈ zs, z = 0 ∨ z = 1 := by
  induction xs with
  | nil => exact ⟨[], rfl, by simp⟩
  | cons x xs ih =>
    obtain ⟨zs, e, b⟩ := ih fun y m => h y (List.mem_cons_of_mem _ m)
    have hx := h x (by simp)
    have hc : x = .int 0 ∨ x = .int 1 := by
      rcases Bool.or_eq_true_iff.mp hx with q | q
      · exact .inl (of_decide_eq_true q)
      · exact .inr (of_decide_eq_true q)
    have : ∃ i : Int, x = .int i ∧ (i = 0 ∨ i = 1) := by
      rcases hc with q | q
      · exact ⟨0, q, .inl rfl⟩
      · exact ⟨1, q, .inr rfl⟩
    obtain ⟨i, rfl, hi⟩ := this
    refine ⟨i :: zs, by rw [e]; rfl, fun z m => ?_⟩
    rcases List.mem_cons.mp m with q | q
    · rw [q]; exact hi
    · exact b z q
/-- what isinstance asks of such a tick -/
theorem tyx_of {K : PySem.W.Frag} {H : Hp} {x : V} (h : Item K H x) : ∃ (n : String) (a b : Bool), TyX K H x (.type n) ∧ PySem.W.kitOne K (.type n) (.type "int") = some a ∧
    PySem.W.kitOne K (.type n) (.type "bool") = some b ∧ (a && !b) = isI x := by
  obtain ⟨d, h, t⟩ := h
  cases t with
  | int _ => cases h; exact ⟨"int", true, false, .base (.int _), kit_ty (by decide +kernel), kit_ty (by decide +kernel), rfl⟩
  | bl b => cases h; exact ⟨"bool", true, true, .base (.bl _), kit_ty (by decide +kernel), kit_ty (by decide +kernel), rfl⟩
  | non => cases h; exact ⟨"NoneType", false, false, .base .non, kit_ty (by decide +kernel), kit_ty (by decide +kernel), rfl⟩
  | one => cases h; exact ⟨"str", false, false, .base (.str _), kit_ty (by decide +kernel), kit_ty (by decide +kernel), rfl⟩
  | lst =>
    cases h with
    | lst q a =>
      rcases q with (q | ⟨o, q⟩) | q
      · exact ⟨"list", false, false, .base (.lst q), kit_ty (by decide +kernel), kit_ty (by decide +kernel), rfl⟩
      · exact ⟨"list", false, false, .base (.frz q), kit_ty (by decide +kernel), kit_ty (by decide +kernel), rfl⟩
      · obtain ⟨o, xs, n, e, c, _⟩ := q
        exact ⟨"list", false, false, .kList e c, kit_ty (by decide +kernel), kit_ty (by decide +kernel), rfl⟩
/-- a list or a tuple -/
def SqA (K : PySem.W.Frag) (H : Hp) (a : Addr) (xs : List V) : Prop := SqL K H a xs ∨ SqT K H a xs
theorem SqA.keep {K : PySem.W.Frag} {H H' : Hp} {a : Addr} {xs : List V} (e : Same H H') (h : SqA K H a xs) : SqA K H' a xs := h.imp (sqL_keep e) (sameT e)
end Wm

/-! Texts of digits: halves, groups, the number they tell. -/
namespace Wm
open PySem L2 TL
def oneS (g : Nat) : Str := ⟨(List.replicate g 49).toArray⟩
def bitS (z : Int) : Str := if z = 1 then "1" else "0"
def decS (g : Nat) : Str := ((toString (g : Int) : String) : Str)
theorem bit_str {z : Int} (h : z = 0 ∨ z = 1) : ((toString z : String) : Str) = bitS z := by
  rcases h with e | e <;> subst e <;> decide +kernel
theorem tl_bit (z : Int) : tl (bitS z) = [if z = 1 then 49 else 48] := by
  unfold bitS
  by_cases c : z = 1
  · rw [if_pos c, if_pos c]; decide +kernel
  · rw [if_neg c, if_neg c]; decide +kernel
theorem joinL_nil : ∀ ps : List (List Nat), joinL [] ps = ps.flatten
  | [] => rfl
  | [p] => by show p = [p].flatten; simp
  | p :: q :: r => by
    show p ++ ([] ++ joinL [] (q :: r)) = _
    rw [joinL_nil (q :: r), List.nil_append]
    rfl
theorem tl_empty : tl ("" : Str) = [] := by decide +kernel
theorem tl_zero : tl ("0" : Str) = [48] := by decide +kernel
theorem tl_join0 (ys : List Str) : tl (Txt.join "" ys) = (ys.map tl).flatten := by
  rw [join_eq, tl_join, tl_empty, joinL_nil]
theorem bits_flat : ∀ zs : List Int, ((zs.map bitS).map tl).flatten = bits zs
  | [] => rfl
  | z :: zs => by
    rw [List.map_cons, List.map_cons, List.flatten_cons, bits_flat zs, tl_bit]
    rfl
theorem halves_eq (zs : List Int) : Txt.join "" (zs.map bitS) = Txt.join "0" ((gaps zs).map oneS) := by
  refine ext_tl ?_
  rw [tl_join0, bits_flat, gaps_join, join_eq, tl_join, tl_zero, List.map_map]
  rfl
theorem groups_eq (zs : List Int) : Txt.split (Txt.join "" (zs.map bitS)) "0" = (gaps zs).map oneS := by
  rw [halves_eq]
  refine split_join (s := 48) (S := []) tl_zero (by decide +kernel) (map_ne (gaps_ne zs)) fun p hp h => ?_
  obtain ⟨g, _, rfl⟩ := List.mem_map.mp hp
  have h : 48 ∈ List.replicate g 49 := h
  exact absurd (List.mem_replicate.mp h).2 (by decide)
theorem oneS_len (g : Nat) : (oneS g).length = g := by
  rw [len_tl]
  show (List.replicate g 49).length = g
  rw [List.length_replicate]
theorem halves_len (zs : List Int) : (Txt.join "" (zs.map bitS)).length = zs.length := by
  rw [len_tl, tl_join0, bits_flat]
  unfold bits
  rw [List.length_map]
theorem len4 : ∀ g : Fin 1001, (decS g.val).length ≤ 4 := by decide +kernel
theorem dec_len {g : Nat} (h : g ≤ 1000) : (decS g).length ≤ 4 := len4 ⟨g, by omega⟩
theorem dec_sum : ∀ {gs : List Nat}, (∀ g ∈ gs, g ≤ 1000) → ((gs.map decS).map (·.length)).sum ≤ 4 * gs.length
  | [], _ => by simp
  | g :: gs, h => by
    have h1 := dec_len (h g (by simp))
    have h2 := dec_sum (gs := gs) fun y m => h y (List.mem_cons_of_mem _ m)
    rw [List.map_cons, List.map_cons, List.sum_cons, List.length_cons]
    omega
theorem join0_len (ys : List Str) : (Txt.join "" ys).length = (ys.map (·.length)).sum := by
  rw [len_tl, tl_join0]
  induction ys with
  | nil => rfl
  | cons y ys ih => rw [List.map_cons, List.flatten_cons, List.length_append, ih, List.map_cons, List.sum_cons, len_tl]
theorem bit_sum (zs : List Int) : ((zs.map bitS).map (·.length)).sum = zs.length := by rw [← join0_len, halves_len]
theorem num_text : ∀ {ds : List Nat}, (∀ d ∈ ds, 1 ≤ d ∧ d ≤ 9) → Txt.join "" (ds.map decS) = numS ds
  | [], _ => by decide +kernel
  | d :: ds, h => by
    have ih := num_text (ds := ds) fun y m => h y (List.mem_cons_of_mem _ m)
    refine ext_tl ?_
    rw [tl_join0, List.map_cons, List.map_cons, List.flatten_cons, ← tl_join0, ih]
    have e : decS d = numS [d] := dig_str (h d (by simp))
    rw [e]
    rfl
/-- the number that a row of bits tells, if it is a row -/
def told (zs : List Int) : Str := Txt.join "" ((gaps (Hf.ev2 zs)).dropLast.dropLast.map decS)
theorem told_row {ds : List Nat} (h : ∀ d ∈ ds, 1 ≤ d ∧ d ≤ 9) : told (rowL ds) = numS ds := by
  unfold told
  rw [gaps_row, ← num_text h]
  congr 2
  show (ds ++ [0, 0]).dropLast.dropLast = ds
  rw [show (ds ++ [0, 0]) = (ds ++ [0]) ++ [0] by simp, List.dropLast_concat, List.dropLast_concat]
theorem digits_codes : ("123456789" : Str).cps.toList = [49, 50, 51, 52, 53, 54, 55, 56, 57] := by decide +kernel
theorem dig_text (t : Str) (h : ∀ c ∈ tl t, c ∈ ("123456789" : Str).cps.toList) : ∃ ds : List Nat, (∀ d ∈ ds, 1 ≤ d ∧ d ≤ 9) ∧ t = numS ds := by
  have h2 : ∀ c ∈ tl t, 49 ≤ c ∧ c ≤ 57 := fun c m => by
    have q := h c m
    rw [digits_codes] at q
    simp only [List.mem_cons, List.not_mem_nil, or_false] at q
    omega
  refine ⟨(tl t).map (· - 48), fun d m => ?_, ?_⟩
  · obtain ⟨c, mc, rfl⟩ := List.mem_map.mp m
    have := h2 c mc
    omega
  · refine ext_tl ?_
    show tl t = ((tl t).map (· - 48)).map (· + 48)
    rw [List.map_map]
    refine (List.map_id _).symm.trans (List.map_congr_left fun c m => ?_)
    have := h2 c m
    show c = c - 48 + 48
    omega
theorem num_codes {ds : List Nat} (h : ∀ d ∈ ds, 1 ≤ d ∧ d ≤ 9) : ∀ c ∈ tl (numS ds), c ∈ ("123456789" : Str).cps.toList := fun c m => by
  have m : c ∈ codes ds := m
  obtain ⟨d, md, rfl⟩ := List.mem_map.mp m
  exact dig_in (h d md)
def IsNum (t : Str) : Prop := ∃ ds, Num ds ∧ t = numS ds
theorem isnum_dig {ds : List Nat} : IsNum (numS ds) ↔ Num ds :=
  ⟨fun ⟨es, N, e⟩ => by rw [numS_inj e]; exact N, fun N => ⟨ds, N, rfl⟩⟩
theorem row_inj {ds es : List Nat} (N : Num ds) (M : Num es) (h : (rowL ds).map V.int = (rowL es).map V.int) : ds = es := by
  have e : rowL ds = rowL es := by
    have q := congrArg (List.map fun v => match v with | V.int i => i | _ => 0) h
    simpa [List.map_map, Function.comp_def] using q
  exact ones_inj (fun d m => (N.dig d m).1) (fun d m => (M.dig d m).1) (by rw [e])
theorem map_int_inj {xs ys : List Int} (h : xs.map V.int = ys.map V.int) : xs = ys := by
  have q := congrArg (List.map fun v => match v with | V.int i => i | _ => 0) h
  simpa [List.map_map, Function.comp_def] using q
/-- what number_of tells of a row -/
def Told (xs : List V) (v : V) : Prop := (∃ ds, Num ds ∧ xs = (rowL ds).map V.int ∧ v = .str (numS ds)) ∨ ((∀ ds, Num ds → xs ≠ (rowL ds).map V.int) ∧ v = .non)
theorem Told.uniq {xs : List V} {v u : V} (a : Told xs v) (b : Told xs u) : v = u := by
  rcases a with ⟨ds, N, e, rfl⟩ | ⟨n, rfl⟩
  · rcases b with ⟨es, M, f, rfl⟩ | ⟨n, _⟩
    · rw [row_inj N M (e.symm.trans f)]
    · exact absurd e (n ds N)
  · rcases b with ⟨es, M, f, rfl⟩ | ⟨_, rfl⟩
    · exact absurd f (n es M)
    · rfl
theorem Told.row {ds : List Nat} {v : V} (N : Num ds) (a : Told ((rowL ds).map V.int) v) : v = .str (numS ds) := a.uniq (.inl ⟨ds, N, rfl, rfl⟩)
end Wm

/-! Things as data: what may be asked whether it is a number. -/
namespace Wm
open PySem L2 TL
structure Tx (t : Str) : Prop where
  len : t.length ≤ 100
  asc : ∀ c ∈ tl t, c < 128
inductive Tg : PyData → Prop
  | int {i : Int} : i.natAbs < 1000000 → Tg (.int i)
  | bl (b : Bool) : Tg (.bool b)
  | non : Tg .none
  | str {t : Str} : Tx t → Tg (.str t)
  | lst {ts : List Str} : (∀ t ∈ ts, Tx t) → ts.length ≤ 100 → Tg (.list (ts.map .str))
  | tup {ts : List Str} : (∀ t ∈ ts, Tx t) → ts.length ≤ 100 → Tg (.tuple (ts.map .str))
structure Ob (K : PySem.W.Frag) (H : Hp) (x : V) (d : PyData) : Prop where
  dp : Dp K H x d
  tg : Tg d
theorem dp_strs {K : PySem.W.Frag} {H H' : Hp} : ∀ {xs : List V} {ts : List Str}, DpAll K H xs (ts.map PyData.str) → xs = ts.map V.str ∧ DpAll K H' (ts.map V.str) (ts.map PyData.str)
  | _, [], h => by cases h; exact ⟨rfl, .nil⟩
  | _, t :: ts, h => by
    cases h with
    | cons a b =>
      cases a
      obtain ⟨e, g⟩ := dp_strs (H' := H') (ts := ts) b
      subst e
      exact ⟨rfl, .cons (.str t) g⟩
theorem dp_strs' {K : PySem.W.Frag} {H : Hp} : ∀ ts : List Str, DpAll K H (ts.map V.str) (ts.map PyData.str)
  | [] => .nil
  | t :: ts => .cons (.str t) (dp_strs' ts)
theorem Ob.move {K : PySem.W.Frag} {H H' : Hp} {x : V} {d : PyData} (h : Ob K H x d) (f : ∀ p o, x = .ref p → H p = some o → (∀ ts : List Str, o = .lst (ts.map V.str) → H' p = some o) ∧ (∀ ts : List Str, o = .tup (ts.map V.str) → H' p = some o) ∧ (∀ ob u, o = .frz ob u → H' p = some o)) : Ob K H' x d := by
  obtain ⟨h, t⟩ := h
  cases t with
  | int q => cases h; exact ⟨.int _, .int q⟩
  | bl b => cases h; exact ⟨.bl _, .bl b⟩
  | non => cases h; exact ⟨.non, .non⟩
  | str q => cases h; exact ⟨.str _, .str q⟩
  | lst q l =>
    cases h with
    | lst s a =>
      obtain ⟨e, g⟩ := dp_strs (H' := H') a
      subst e
      refine ⟨.lst ?_ g, .lst q l⟩
      rcases s with (s | ⟨o, s⟩) | s
      · exact .inl (.inl ((f _ _ rfl s).1 _ rfl))
      · exact .inl (.inr ⟨o, (f _ _ rfl s).2.2 _ _ rfl⟩)
      · exact .inr s
  | tup q l =>
    cases h with
    | tup s a =>
      obtain ⟨e, g⟩ := dp_strs (H' := H') a
      subst e
      refine ⟨.tup ?_ g, .tup q l⟩
      rcases s with (s | ⟨o, s⟩) | s
      · exact .inl (.inl ((f _ _ rfl s).2.1 _ rfl))
      · exact .inl (.inr ⟨o, (f _ _ rfl s).2.2 _ _ rfl⟩)
      · exact .inr s
theorem Ob.keep {K : PySem.W.Frag} {H H' : Hp} {x : V} {d : PyData} (e : Same H H') (h : Ob K H x d) : Ob K H' x d :=
  h.move fun p o _ q => ⟨fun _ _ => e _ _ q, fun _ _ => e _ _ q, fun _ _ _ => e _ _ q⟩
theorem Ob.but {K : PySem.W.Frag} {H H' : Hp} {x : V} {d : PyData} {b : Addr} {n : Nat} (bag : Bag H b n) (e : But b H H') (h : Ob K H x d) : Ob K H' x d := by
  obtain ⟨c, i, k, m, z, ns, hb, _⟩ := bag
  refine h.move fun p o _ q => ?_
  by_cases pb : p = b
  · subst pb
    rw [hb] at q
    have q := Option.some.inj q
    subst q
    refine ⟨fun ts f => ?_, fun ts f => (by cases f), fun ob u f => (by cases f)⟩
    cases ts with
    | nil => simp at f
    | cons t ts => simp at f
  · exact ⟨fun _ _ => e _ _ pb q, fun _ _ => e _ _ pb q, fun _ _ _ => e _ _ pb q⟩
theorem tx_lay {t : Str} (h : Tx t) : PyData.leavesShort 13 (.str t) = true ∧ PyData.weight (.str t) ≤ 100 := by
  refine ⟨?_, h.len⟩
  show (t.cps.toList.all fun c => decide (c < 16 ^ 8)) = true
  rw [List.all_eq_true]
  intro c m
  have := h.asc c m
  exact decide_eq_true (by omega)
theorem strs_lay : ∀ {ts : List Str}, (∀ t ∈ ts, Tx t) → PyData.leavesShortAll 13 (ts.map .str) = true ∧ PyData.weightAll (ts.map .str) ≤ 101 * ts.length ∧ PyData.showableAll (ts.map .str) = true ∧ PyData.hasDictAll (ts.map .str) = false ∧ PyData.depthAll (ts.map .str) = 0 ∧ PyData.plainAll (ts.map .str) = true
  | [], _ => by simp [PyData.leavesShortAll, PyData.weightAll, PyData.showableAll, PyData.hasDictAll, PyData.depthAll, PyData.plainAll]
  | t :: ts, h => by
    have h1 := tx_lay (h t (by simp))
    have h2 := strs_lay (ts := ts) fun y m => h y (List.mem_cons_of_mem _ m)
    obtain ⟨a1, a2⟩ := h1
    obtain ⟨b1, b2, b3, b4, b5, b6⟩ := h2
    simp only [List.map_cons, PyData.leavesShortAll, PyData.weightAll, PyData.showableAll, PyData.hasDictAll, PyData.depthAll, PyData.plainAll, a1, b1, b3, b4, b5, b6, PyData.showable, PyData.hasDict, PyData.depth, PyData.plain, Bool.and_self, Bool.or_self, true_and, List.length_cons, and_true, Nat.max_self]
    omega
structure Shows (d : PyData) : Prop where
  sh : d.showable = true
  nd : d.hasDict = false
  dep : d.depth ≤ 60
  fit : d.shown.length ≤ sizeLine
theorem tg_shows {d : PyData} (t : Tg d) : Shows d := by
  cases t with
  | @int i h =>
    have hl : i.natAbs.log2 < 20 ∨ i = 0 := by
      by_cases z : i = 0
      · exact .inr z
      · exact .inl ((Nat.log2_lt (by omega)).mpr (by omega))
    refine ⟨decide_eq_true ?_, rfl, Nat.zero_le _, Nat.le_trans (PyData.shown_int_le (by omega)) (by decide)⟩
    rcases hl with z | z
    · omega
    · subst z; decide
  | bl b => exact ⟨rfl, rfl, Nat.zero_le _, by cases b <;> decide +kernel⟩
  | non => exact ⟨rfl, rfl, Nat.zero_le _, by decide +kernel⟩
  | str h =>
    have q := tx_lay h
    exact ⟨rfl, rfl, Nat.zero_le _, PyData.shown_fits (B := 13) (by decide) (by decide) q.1 (Nat.le_trans q.2 (by decide))⟩
  | lst h l =>
    obtain ⟨b1, b2, b3, b4, b5, b6⟩ := strs_lay h
    exact ⟨b3, b4, by simp only [PyData.depth, b5]; decide, PyData.shown_fits (B := 13) (by decide) (by decide) b1 (Nat.le_trans b2 (by omega))⟩
  | tup h l =>
    obtain ⟨b1, b2, b3, b4, b5, b6⟩ := strs_lay h
    exact ⟨b3, b4, by simp only [PyData.depth, b5]; decide, PyData.shown_fits (B := 13) (by decide) (by decide) b1 (Nat.le_trans b2 (by omega))⟩
/-- a number's text -/
def IsN (x : V) : Prop := ∃ ds, Num ds ∧ x = .str (numS ds)
/-- what isinstance asks of a thing: a text, or no text -/
theorem tys_of {K : PySem.W.Frag} {H : Hp} {x : V} {d : PyData} (h : Ob K H x d) : ∃ (n : String) (b : Bool), TyX K H x (.type n) ∧ PySem.W.kitOne K (.type n) (.type "str") = some b ∧ (b = true → ∃ t, x = .str t ∧ d = .str t ∧ Tx t) ∧ (b = false → ¬ IsN x) := by
  obtain ⟨h, t⟩ := h
  cases t with
  | int _ => cases h; exact ⟨"int", false, .base (.int _), kit_ty (by decide +kernel), (fun z => by cases z), fun _ ⟨ds, _, e⟩ => by cases e⟩
  | bl b => cases h; exact ⟨"bool", false, .base (.bl _), kit_ty (by decide +kernel), (fun z => by cases z), fun _ ⟨ds, _, e⟩ => by cases e⟩
  | non => cases h; exact ⟨"NoneType", false, .base .non, kit_ty (by decide +kernel), (fun z => by cases z), fun _ ⟨ds, _, e⟩ => by cases e⟩
  | str q => cases h; exact ⟨"str", true, .base (.str _), kit_ty (by decide +kernel), fun _ => ⟨_, rfl, rfl, q⟩, fun z => by cases z⟩
  | lst _ _ =>
    cases h with
    | lst q a =>
      rcases q with (q | ⟨o, q⟩) | q
      · exact ⟨"list", false, .base (.lst q), kit_ty (by decide +kernel), (fun z => by cases z), fun _ ⟨ds, _, e⟩ => by cases e⟩
      · exact ⟨"list", false, .base (.frz q), kit_ty (by decide +kernel), (fun z => by cases z), fun _ ⟨ds, _, e⟩ => by cases e⟩
      · obtain ⟨o, xs, n, e, c, _⟩ := q
        exact ⟨"list", false, .kList e c, kit_ty (by decide +kernel), (fun z => by cases z), fun _ ⟨ds, _, e⟩ => by cases e⟩
  | tup _ _ =>
    cases h with
    | tup q a =>
      rcases q with (q | ⟨o, q⟩) | q
      · exact ⟨"tuple", false, .base (.tup q), kit_ty (by decide +kernel), (fun z => by cases z), fun _ ⟨ds, _, e⟩ => by cases e⟩
      · exact ⟨"tuple", false, .fTuple q, kit_ty (by decide +kernel), (fun z => by cases z), fun _ ⟨ds, _, e⟩ => by cases e⟩
      · obtain ⟨o, xs, n, e, c, _⟩ := q
        exact ⟨"tuple", false, .kTuple e c, kit_ty (by decide +kernel), (fun z => by cases z), fun _ ⟨ds, _, e⟩ => by cases e⟩
theorem ob_num {K : PySem.W.Frag} {H : Hp} {ds : List Nat} (N : Num ds) : Ob K H (.str (numS ds)) (.str (numS ds)) :=
  ⟨.str _, .str ⟨by rw [numS_len]; have := N.len; omega, fun c m => by
    have m : c ∈ codes ds := m
    obtain ⟨d, md, rfl⟩ := List.mem_map.mp m
    have := (N.dig d md).2
    omega⟩⟩
theorem isN_str {t : Str} : IsN (.str t) ↔ IsNum t := ⟨fun ⟨ds, N, e⟩ => ⟨ds, N, V.str.inj e⟩, fun ⟨ds, N, e⟩ => ⟨ds, N, by rw [e]⟩⟩
theorem fresh_but {b p : Addr} {H H' : Hp} {n : Nat} (bag : Bag H b n) (e : But b H H') (f : H' p = none) : H p = none := by
  cases q : H p with
  | none => rfl
  | some o =>
    by_cases pb : p = b
    · obtain ⟨c, x, k, m, z, ns, h, _⟩ := bag
      obtain ⟨x', k', m', z', g⟩ := e.cel c ⟨x, k, m, z, h⟩
      rw [pb, g] at f
      cases f
    · rw [e.keep p o pb q] at f
      cases f
end Wm

/-! sum of a tuple of ints. -/
namespace Hf
open PySem PySem.Spec PyProof.Rows L2
section
variable {prog : Program} {w : World} {A : Around} {E : Value → Shared → Prop} {s : Shared} {l : Addr} {its : List Value} {ns : List Int} {Q : Value → Shared → Prop}
theorem sum_rawT (hh : A.handled = none) (hl : s.heap.IsTuple l its.toArray) (hi : IntsAre its ns)
    (h : ∀ h' tk t', (∀ b o, s.heap.get? b = some o → h'.get? b = some o) → Q (.int ns.sum t') { s with heap := h', toks := tk }) : wpAny (model prog w) A (call (.builtin "sum") [.ref l]) Q E s := by
  obtain ⟨xs, e⟩ := hi.allInts.items
  have hn : numsOf (intItems xs).toList = ns := by rw [← e]; exact hi.numsOf
  rw [nums_intItems] at hn
  rw [e] at hl
  refine PySem.W.ktm_sumG hh hl fun h' tk t' hk => ?_
  have := h h' tk t' hk
  rw [preSum_eq, List.take_of_length_le (by simp), hn]; exact this
end
section
variable {X : Cx}
def rSumA (K : PySem.W.Frag) : List V → Hp → VK → Prop := fun vs H Q => ∃ (a : Addr) (ns : List Int), vs = [V.ref a] ∧ (SqL K H a (ns.map V.int) ∨ SqT K H a (ns.map V.int)) ∧ Q (.int ns.sum) H
theorem cr_sumA (hc : X.calm = true) : CallR X (.builtin "sum") (rSumA X.K) := by
  intro pins s σ H vs us Q I r h
  obtain ⟨a, ns, rfl, hs, q⟩ := h
  rcases hs with hs | hs
  · obtain ⟨its, rv, hl, _⟩ := I.list hs
    rw [Vals.ref1 r]
    exact sum_raw (I.ok.hd hc) hl.isList rv.ints fun h' tk t' hk => ⟨.int _, H, I.kept hk, ⟨_, rfl⟩, q⟩
  · obtain ⟨its, rv, hl, _⟩ := I.tuple hs
    rw [Vals.ref1 r]
    exact sum_rawT (I.ok.hd hc) (show s.heap.IsTuple a its.toArray from hl) rv.ints fun h' tk t' hk => ⟨.int _, H, I.kept hk, ⟨_, rfl⟩, q⟩
end
end Hf

/-! enumerate of a tuple, as a thing that a for walks. -/
namespace Es
open PySem PySem.Spec PyProof.Rows L2
theorem meets_ent (t : Addr) (its : Array Value) (m : Nat) (dd : Option Addr) (slo : Array (Option Value)) :
    Meets (Builtin.«enumerate.__new__» ⟨[.type "enumerate", .ref t], []⟩) (fun _ R s => s.heap.get? t = some { cls := .type "tuple", dict := dd, data := .seq its m, slots := slo } ∧
      R (.ok (.ret (.ref (s.heap.push { cls := .type "tuple_iterator", data := .fields #[.ref t, .int 0 0] }).objs.size))) { s with heap := (s.heap.push { cls := .type "tuple_iterator", data := .fields #[.ref t, .int 0 0] }).push { cls := .type "enumerate", data := .fields #[.none, .bool false, .ref s.heap.objs.size, rawInt 0, .none, .none] } }) :=
  .of_wp fun prog w A R s h => by
    obtain ⟨hp, gn, dr, tk, os⟩ := s
    obtain ⟨ht, h⟩ := h
    have hsub := sub_enumerate
    have hT : Heap.IsTuple (Shared.heap ⟨hp, gn, dr, tk, os⟩) t its := ⟨_, ht, rfl, m, rfl⟩
    wp_walk using AutoSeq1.wpAny_loadPart' ht
    refine wpAny_stack_any fun st => wpAny_pure ?_
    split
    · rename_i c _ _ _ _ _
      cases (c == Value.type "enumerate")
      · wp_walk using AutoSeq1.wpAny_loadPart' ht, wpAny_pyIter_tuple hT
        exact ⟨_, rfl, h⟩
      · wp_walk using AutoSeq1.wpAny_loadPart' ht, wpAny_pyIter_tuple hT
        exact ⟨_, rfl, h⟩
    · wp_walk using AutoSeq1.wpAny_loadPart' ht, wpAny_pyIter_tuple hT
      exact ⟨_, rfl, h⟩
section
variable {prog : Program} {w : World} {A : Around} {E : Value → Shared → Prop} {s : Shared}
theorem call_ent {t : Addr} {its : Array Value} {Q : Value → Shared → Prop} (ht : s.heap.IsTuple t its)
    (q : ∀ g, IsEnum g (s.heap.objs.size + 1) s.heap.objs.size 0 .none → g.IsTupleIter s.heap.objs.size t 0 → (∀ b o, s.heap.get? b = some o → g.get? b = some o) → Q (.ref (s.heap.objs.size + 1)) { s with heap := g }) :
    wpAny (model prog w) A (call (.type "enumerate") [.ref t]) Q E s := by
  obtain ⟨⟨tc, td, tdat, tsl⟩, h0, h1, m, h2⟩ := ht
  simp only at h1 h2
  subst h1 h2
  refine callType_new F.called_enumerate (by decide) (F.typeCall_enumerate_1 _) (F.newCall_enumerate_1 _) (fun ob => F.args_object_init_2 ob _) F.entry_enumerate_new (meets_ent t its m td tsl) ⟨h0, ?_⟩
  have hz : (s.heap.push { cls := .type "tuple_iterator", data := .fields #[.ref t, .int 0 0] }).objs.size = s.heap.objs.size + 1 := Heap.size_push ..
  have er : IsEnum ((s.heap.push { cls := .type "tuple_iterator", data := .fields #[.ref t, .int 0 0] }).push { cls := .type "enumerate", data := .fields #[.none, .bool false, .ref s.heap.objs.size, rawInt 0, .none, .none] }) (s.heap.objs.size + 1) s.heap.objs.size 0 .none := by
    rw [← hz]
    exact Heap.get?_push_size _ rfl
  show _ ∧ _
  rw [hz]
  exact ⟨⟨_, er, rfl⟩, q _ er ⟨_, Heap.get?_push_of_some _ (Heap.get?_push_size _ rfl), rfl, rfl⟩ fun b o x => Heap.get?_push_of_some _ (Heap.get?_push_of_some _ x)⟩
theorem tup_end {e it t : Addr} {i : Nat} {its : Array Value} {old : Value} {k : Int} {Q : Option Value → Shared → Prop} (hh : A.handled = none) (er : IsEnum s.heap e it k old) (ti : s.heap.IsTupleIter it t i) (ht : s.heap.IsTuple t its) (hx : its[i]? = none)
    (q : ∀ g, Heap.ExtBut it s.heap g → Q none { s with heap := g }) : wpAny (model prog w) A (pyNext (.ref e)) Q E s := by
  have te : s.TypeIs (.ref e) "enumerate" := ⟨_, er, rfl⟩
  unfold pyNext
  refine wpAny_bind (wpAny_attempt (wpAny_callSpecial?_slot (name := Str.ofString "__next__") te F.slot_enumerate_next (wpAny_call_entry F.slot_enumerate_next te F.entry_enumerate_next ?_ (F.args_enumerate_next_1 _))))
  show wpAny _ _ (field (.ref e) 2 >>= _) _ _ _
  refine wpAny_bind (wpAny_field er rfl (x := .ref it) rfl ?_)
  refine wpAny_bind (wpAny_nextOf_tuple_end (show A.in1.handled = none from hh) ti ht hx fun g x k1 ⟨o, k2, k3⟩ => ?_)
  refine wpAny_bind (wpAny_isInstance (T := "StopIteration") (b := true) ⟨o, k2, k3⟩ isSubtype_stop ?_)
  exact wpAny_pure (q _ k1)
end
def Iten (K : PySem.W.Frag) (a : Addr) : It :=
  ⟨fun i H => ∃ (xs : List V) (x : V), SqT K H a xs ∧ xs[i]? = some x, fun i H v H' => ∃ T x, v = .ref T ∧ H T = none ∧ H' = upd H T (.tup [.int (i : Nat), x]) ∧ ∀ xs, SqT K H a xs → xs[i]? = some x, fun i H => ∃ xs : List V, SqT K H a xs ∧ xs.length ≤ i⟩
theorem turn_ent {P : Program} {w : World} {K : PySem.W.Frag} {elts : List Expr} {kk : Nat} {tpos : Pos} (a e it : Addr) (nei : e ≠ it) (nea : e ≠ a) (nai : a ≠ it) :
    Turn P w K (.Tuple elts kk tpos) (Iten K a) [e, it] e (fun i h => (∃ old, IsEnum h e it ((i : Nat) : Int) old) ∧ h.IsTupleIter it a i) where
  mem := by simp
  obj := fun i h st b hb => by
    obtain ⟨⟨old, er⟩, o, ho, _, hd⟩ := st
    have hb' : b = e ∨ b = it := by simpa using hb
    rcases hb' with z | z
    · rw [z]
      exact ⟨_, er, fun v q => nomatch q⟩
    · rw [z]
      exact ⟨o, ho, fun v q => by rw [hd] at q; cases q⟩
  keep := fun i h g st k => by
    obtain ⟨⟨old, er⟩, ti⟩ := st
    exact ⟨⟨old, k e (by simp) _ er⟩, ti.at fun o q => k it (by simp) o q⟩
  item := by
    intro X hP hw hK hc i pins s σ H E I hf st hg
    subst hP hw hK
    obtain ⟨⟨old, er⟩, ti⟩ := st
    obtain ⟨xs, x, hq, hx⟩ := hg
    obtain ⟨its, rv, p, _⟩ := I.tuple hq
    obtain ⟨u, hu, ru⟩ := rv.get hx
    have el : e < s.heap.objs.size := Heap.lt_size er
    have il : it < s.heap.objs.size := by
      obtain ⟨_, q, _⟩ := id ti
      exact Heap.lt_size q
    have hlt : i < its.toArray.size := by
      have q := (List.getElem?_eq_some_iff.mp hu).1
      simpa using q
    have hd : X.A.in1.handled = none := I.ok.hd hc
    refine wpAny_pyNext_enum_itemD (Draws.tuple hd it a nai its.toArray) er ⟨ti, p⟩ hlt nei (by simp [nei, nea]) fun y g tk hy eo st2 hT hsz hk => ?_
    have ey : y = u := by
      rw [show its.toArray[i]? = some u by simpa using hu] at hy
      exact (Option.some.inj hy).symm
    subst ey
    refine ⟨_, rfl, wpAny_letOwnedTupleGo_enum (s := { s with heap := g, toks := tk + 1 }) eo fun g2 er2 sb => ?_⟩
    have hT2 : g2.get? s.heap.objs.size = some { cls := .type "tuple", data := .seq #[.int i tk, y] } := (sb.2 _ (Nat.ne_of_gt el)).trans hT
    have new : ObjOk X.prog X.w (upd H s.heap.objs.size (.tup [.int (i : Nat), x])) g2 s.heap.objs.size (.tup [.int (i : Nat), x]) := ⟨by show 2 ≤ sizeLine; decide, [.int i tk, y], .cons ⟨_, rfl⟩ (.cons ru .nil), ⟨_, hT2, rfl, _, rfl⟩⟩
    have I1 : Inv X pins σ (upd H s.heap.objs.size (.tup [.int (i : Nat), x])) { s with heap := g2, toks := tk + 1 } := I.turnedNew (ch := [e, it]) (fun b ob hb q => (sb.2 b (fun z => hb (by simp [z]))).trans (hk b ob (fun z => hb (by simp [z])) (fun z => hb (by simp [z])) q)) hf (Nat.le_refl _) new
    refine ⟨.ref s.heap.objs.size, _, I1, rfl, ⟨_, x, rfl, I.hok.fresh (Nat.le_refl _), rfl, fun ys hy => by rw [I.tuple_inj hy hq]; exact hx⟩, ⟨⟨y, ?_⟩, st2.1.at fun o q => (sb.2 it nei.symm).trans q⟩, fun b hb => ?_⟩
    · rw [show ((i + 1 : Nat) : Int) = (i : Int) + 1 by omega]
      exact er2
    · have lb : b < s.heap.objs.size := by
        have hb' : b = e ∨ b = it := by simpa using hb
        rcases hb' with z | z
        · rw [z]; exact el
        · rw [z]; exact il
      rw [upd_ne (Nat.ne_of_lt lb)]
      exact (hf b hb).1
  done := by
    intro X hP hw hK hc i pins s σ H E I hf st hg
    subst hP hw hK
    obtain ⟨⟨old, er⟩, ti⟩ := st
    obtain ⟨xs, hq, hx⟩ := hg
    obtain ⟨its, rv, p, _⟩ := I.tuple hq
    have hl := rv.length
    exact tup_end (I.ok.hd hc) er ti p (by simp; omega) fun g kg => ⟨rfl, I.turnedL (t' := s.toks) (ch := [e, it]) (fun b o hb q => kg b o (fun z => hb (by simp [z])) q) hf⟩
  self := fun A i s Q E st h => let ⟨⟨_, er⟩, _⟩ := st; wpAny_pyIter_enum er h
def iEnt (K : PySem.W.Frag) (ta : TA) : TI := fun σ H R => ta σ H fun vs H1 => ∃ a xs, vs = [.ref a] ∧ SqT K H1 a xs ∧ R (Iten K a) H1
theorem pi_ent {X : Cx} {e : Expr} {ta : TA} {p pos tpos : Pos} {elts : List Expr} {kk : Nat} (hg : Gl X "enumerate") (hm : X.mg "enumerate" = none) (ha : PA X [e] ta) (hs : starEach [e] X.env = [(false, eval e X.env)] := by rfl) :
    PI X (.Tuple elts kk tpos) (.Call (.Name "enumerate" p) [e] [] pos) (iEnt X.K ta) := by
  refine ⟨fun pins s σ H R I h => ?_⟩
  refine Call_ (ld_blt I hg hm boot_enumerate (PyProof.Rows.callWith_type1 (thn (ha.run pos pins s σ H _ I h) fun us s1 ⟨vs, H1, I1, r1, q1⟩ => ?_) hs rfl))
  obtain ⟨a, xs, ev, hq, q⟩ := q1
  subst ev
  cases r1 with
  | cons r rr =>
    cases rr
    cases r
    obtain ⟨its, rv, pt, _⟩ := I1.tuple hq
    obtain ⟨ot, hot, _⟩ := id pt
    have al : a < s1.heap.objs.size := Heap.lt_size hot
    refine call_ent (show s1.heap.IsTuple a its.toArray from pt) fun g er ti kg => wpAny_pyIter_enum er ?_
    have I2 : Inv X pins σ H1 { s1 with heap := g } := I1.kept (t' := s1.toks) kg
    refine ⟨s1.heap.objs.size + 1, [s1.heap.objs.size + 1, s1.heap.objs.size], _, _, H1, rfl, I2, turn_ent a (s1.heap.objs.size + 1) s1.heap.objs.size (Nat.succ_ne_self _) (Nat.ne_of_gt (Nat.lt_succ_of_lt al)) (Nat.ne_of_lt al), ⟨⟨.none, er⟩, ti⟩, fun b hb => ?_, q⟩
    have hb' : b = s1.heap.objs.size + 1 ∨ b = s1.heap.objs.size := by simpa using hb
    have le : s1.heap.objs.size ≤ b := by
      rcases hb' with z | z
      · rw [z]; exact Nat.le_add_right _ _
      · rw [z]; exact Nat.le_refl _
    exact I1.fpOk le (I1.hok.fresh le)
theorem walk_ent {K : PySem.W.Frag} {a : Addr} {xs : List V} : Walk (Iten K a) xs.length (fun H => SqT K H a xs) (YPair (fun i => some (.int (i : Nat))) (fun i => xs[i]?)) := by
  refine ⟨fun i _ hi q => ⟨xs, xs[i], q, by simp [hi]⟩, fun _ q => ⟨xs, q, Nat.le_refl _⟩, fun i H v H' _ q y => ?_⟩
  obtain ⟨T, x, y1, y2, y3, y4⟩ := y
  exact ⟨T, .int (i : Nat), x, y1, y2, y3, rfl, y4 xs q⟩
end Es

/-! xs.extend(t), t a tuple; comprehensions of two clauses by walks. -/
namespace Et
open PySem PySem.Spec PyProof.Rows L2
theorem ext_meets (l : Addr) (us : Array Value) (n : Nat) (b : Addr) (vs : Array Value) (m : Nat) (dd : Option Addr) (sl : Array (Option Value)) (h0 : ¬(!us.isEmpty && Builtin.List.listTooLong (us.size + vs.size)) = true) (h1 : us.size ≤ sizeLine) (h2 : us.size + vs.size ≤ sizeLine + 1) :
    Meets (Builtin.«list.extend» ⟨[.ref l, .ref b], []⟩) (fun _ R s => s.heap.get? l = some { cls := .type "list", dict := none, data := .seq us n, slots := #[] } ∧ s.heap.get? b = some { cls := .type "tuple", dict := dd, data := .seq vs m, slots := sl } ∧ R (.ok (.ret Value.none)) { s with heap := s.heap.update l (Obj.mapSeq fun x => x ++ vs), toks := s.toks }) :=
  .of_wp fun prog w A R s h => by
    obtain ⟨hp, g, d, tk, os⟩ := s
    obtain ⟨hl, hb, h⟩ := h
    have f1 := AutoSeq1.idx_int
    have f2 := AutoSeq1.sub_tuple_tuple
    have f3 := AutoSeq1.sub_list_list
    have f4 := AutoSeq1.sub_tuple_list
    have f5 := AutoSeq1.sub_list_tuple
    have hz' : (us ++ vs).size ≤ sizeLine + 1 := by
      rw [Array.size_append]
      exact h2
    wp_walk using (wpAny_updateSeq hl rfl (hz := h1) (_hz' := hz')), AutoSeq1.wpAny_loadPart' hl, AutoSeq1.wpAny_loadPart' hb
    exact ⟨_, rfl, h⟩
section
variable {X : Cx}
def rExtT (K : PySem.W.Frag) : V → List V → Hp → VK → Prop := fun x vs H Q => ∃ l b xs zs, x = .ref l ∧ vs = [.ref b] ∧ H l = some (.lst xs) ∧ SqT K H b zs ∧ xs.length + zs.length ≤ sizeLine ∧ Q .non (upd H l (.lst (xs ++ zs)))
theorem mt_extT : MtM X "list.extend" (rExtT X.K) := by
  intro pins s σ H x vs v us Q I rx rv h
  obtain ⟨l, b, xs, zs, rfl, rfl, hH, hB, hz, q⟩ := h
  cases rx
  obtain ⟨u, rfl, ru⟩ := rv.one
  cases ru
  obtain ⟨z, its, n, r, hl, e⟩ := I.lstM hH
  obtain ⟨its2, r2, p2, _⟩ := I.tuple hB
  obtain ⟨⟨c2, d2, a2, s2⟩, e2, k1, m, k2⟩ := p2
  simp only at k1 k2
  subst k1 k2
  have hl2 := r2.length
  have hsz : its.toArray.size + its2.toArray.size ≤ sizeLine := by
    rw [List.size_toArray, List.size_toArray]
    omega
  have hlong : ¬ (!its.toArray.isEmpty && Builtin.List.listTooLong (its.toArray.size + its2.toArray.size)) = true := by
    rw [notLongL hsz, Bool.and_false]
    exact Bool.false_ne_true
  refine call_meets F.slot_list_extend ⟨_, e, rfl⟩ F.entry_list_extend (F.args_list_extend_2 _ _) (ext_meets l its.toArray n b its2.toArray m d2 s2 hlong (by rw [List.size_toArray]; omega) (by omega)) ⟨e, e2, ?_⟩
  refine ⟨.non, _, I.lset (its' := its ++ its2) hH e (by simp) (r.append r2) ?_, rfl, q⟩
  rw [List.length_append]
  omega
end
/-- the outer clause of a comprehension of two -/
theorem out_it {J : It} {n : Nat} {G : Hp → Prop} {Y : Nat → Hp → V → Hp → Prop} (w : Walk J n G Y) {g : TG} {tt : TT} {B : (Hp → Prop) → L2.St → Hp → Prop} {vs : List Nat} {σ : L2.St} {H1 : Hp} {D : Addr} {Qd : Hp → Prop} (Pv : Nat → Hp → Prop) (h0 : Pv 0 (upd H1 D (.lst []))) (hG : ∀ i H, i ≤ n → Pv i H → G H)
    (hs : ∀ i x H H', i < n → Pv i H → Y i H x H' → g x (wipe σ vs) H' fun σ2 H2 => wipe σ2 vs = wipe σ vs ∧ tt σ2 H2 fun b H3 => if b = true then B (Pv (i + 1)) σ2 H3 else Pv (i + 1) H3) (hd : ∀ H, Pv n H → Qd H) :
    ∃ W : Nat → Nat → Hp → Prop, (∃ m, W 0 m (upd H1 D (.lst []))) ∧ ∀ i m H, W i m H →
      (J.stop i H ∧ Qd H) ∨ (J.go i H ∧ ∃ Nx : Hp → Prop, (∀ H', Nx H' → ∃ m', m' < m ∧ W (i + 1) m' H') ∧ ∀ x H', J.yld i H x H' → g x (wipe σ vs) H' fun σ2 H2 => wipe σ2 vs = wipe σ vs ∧ tt σ2 H2 fun b H3 => if b = true then B Nx σ2 H3 else Nx H3) := by
  refine ⟨fun i m H => m = n - i ∧ i ≤ n ∧ Pv i H, ⟨n, by simp, Nat.zero_le _, h0⟩, ?_⟩
  rintro i m H ⟨rfl, hi, p⟩
  have q := hG i H hi p
  by_cases lt : i < n
  · exact .inr ⟨w.goes i H lt q, Pv (i + 1), fun H' p' => ⟨n - (i + 1), by omega, rfl, lt, p'⟩, fun x H' y => hs i x H H' lt p (w.yields i H x H' lt q y)⟩
  · have e : i = n := by omega
    subst e
    exact .inl ⟨w.stops H q, hd H p⟩
/-- the inner clause -/
theorem in_it {J : It} {n : Nat} {G : Hp → Prop} {Y : Nat → Hp → V → Hp → Prop} (w : Walk J n G Y) {g : TG} {tt : TT} {te : TE} {vs : List Nat} {σ : L2.St} {H1 : Hp} {D : Addr} {Qd : Hp → Prop} (Pv : Nat → Hp → Prop) (h0 : Pv 0 H1) (hG : ∀ i H, i ≤ n → Pv i H → G H)
    (hs : ∀ i x H H', i < n → Pv i H → Y i H x H' → g x (wipe σ vs) H' fun σ2 H2 => wipe σ2 vs = wipe σ vs ∧ tt σ2 H2 fun b H3 =>
      if b = true then te σ2 H3 fun y H4 => ∃ acc, H4 D = some (.lst acc) ∧ acc.length < sizeLine ∧ Pv (i + 1) (upd H4 D (.lst (acc ++ [y]))) else Pv (i + 1) H3) (hd : ∀ H, Pv n H → Qd H) :
    ∃ W : Nat → Nat → Hp → Prop, (∃ m, W 0 m H1) ∧ ∀ i m H, W i m H →
      (J.stop i H ∧ Qd H) ∨ (J.go i H ∧ ∃ Nx : Hp → Prop, (∀ H', Nx H' → ∃ m', m' < m ∧ W (i + 1) m' H') ∧ ∀ x H', J.yld i H x H' → g x (wipe σ vs) H' fun σ2 H2 => wipe σ2 vs = wipe σ vs ∧ tt σ2 H2 fun b H3 =>
        if b = true then te σ2 H3 fun y H4 => ∃ acc, H4 D = some (.lst acc) ∧ acc.length < sizeLine ∧ Nx (upd H4 D (.lst (acc ++ [y]))) else Nx H3) := by
  refine ⟨fun i m H => m = n - i ∧ i ≤ n ∧ Pv i H, ⟨n, by simp, Nat.zero_le _, h0⟩, ?_⟩
  rintro i m H ⟨rfl, hi, p⟩
  have q := hG i H hi p
  by_cases lt : i < n
  · refine .inr ⟨w.goes i H lt q, Pv (i + 1), fun H' p' => ⟨n - (i + 1), by omega, rfl, lt, p'⟩, fun x H' y => hs i x H H' lt p (w.yields i H x H' lt q y)⟩
  · have e : i = n := by omega
    subst e
    exact .inl ⟨w.stops H q, hd H p⟩
end Et

/-! Data of ints, texts and tuples of such; what keeps them. -/
namespace Dv
open PySem L2 Wm
mutual
inductive Dt (K : PySem.W.Frag) (H : Hp) : V → PyData → Prop
  | int (i : Int) : Dt K H (.int i) (.int i)
  | str (x : Str) : Dt K H (.str x) (.str x)
  | tup {a : Addr} {xs : List V} {ds : List PyData} : SqT K H a xs → Dts K H xs ds → Dt K H (.ref a) (.tuple ds)
inductive Dts (K : PySem.W.Frag) (H : Hp) : List V → List PyData → Prop
  | nil : Dts K H [] []
  | cons {v : V} {vs : List V} {d : PyData} {ds : List PyData} : Dt K H v d → Dts K H vs ds → Dts K H (v :: vs) (d :: ds)
end
/-- tuples stand -/
def Kt (K : PySem.W.Frag) (H H' : Hp) : Prop := ∀ a xs, SqT K H a xs → SqT K H' a xs
section
variable {K : PySem.W.Frag} {H H' H2 : Hp}
theorem Kt.refl : Kt K H H := fun _ _ h => h
theorem Kt.trans (a : Kt K H H') (b : Kt K H' H2) : Kt K H H2 := fun p xs h => b p xs (a p xs h)
theorem Kt.same (s : Same H H') : Kt K H H' := fun _ _ h => sameT s h
/-- a store at what is no tuple -/
theorem Kt.set {p : Addr} {o u : HO} (h : H p = some u) (n1 : ∀ xs, u ≠ .tup xs) (n2 : ∀ ob xs, u ≠ .frz ob (.tup xs)) : Kt K H (upd H p o) := fun a xs q => by
  rcases q with (q | ⟨ob, q⟩) | q
  · exact .inl (.inl (by rw [upd_ne (fun e => by subst e; rw [h] at q; exact n1 _ (Option.some.inj q))]; exact q))
  · exact .inl (.inr ⟨ob, by rw [upd_ne (fun e => by subst e; rw [h] at q; exact n2 _ _ (Option.some.inj q))]; exact q⟩)
  · exact .inr q
theorem Kt.lst {p : Addr} {o : HO} {xs : List V} (h : H p = some (.lst xs)) : Kt K H (upd H p o) := Kt.set h (fun _ q => by cases q) (fun _ _ q => by cases q)
theorem Kt.new {p : Addr} {o : HO} (h : H p = none) : Kt K H (upd H p o) := Kt.same (same_new h)
mutual
theorem Dt.keep (k : Kt K H H') : ∀ (d : PyData) (v : V), Dt K H v d → Dt K H' v d
  | .int _, _, h => by cases h; exact .int _
  | .str _, _, h => by cases h; exact .str _
  | .tuple ds, _, h => by
    cases h with
    | tup a b => exact .tup (k _ _ a) (Dts.keep k ds _ b)
  | .none, _, h => by cases h
  | .bool _, _, h => by cases h
  | .list _, _, h => by cases h
  | .dict _, _, h => by cases h
theorem Dts.keep (k : Kt K H H') : ∀ (ds : List PyData) (vs : List V), Dts K H vs ds → Dts K H' vs ds
  | [], _, h => by cases h; exact .nil
  | d :: ds, _, h => by
    cases h with
    | cons a b => exact .cons (Dt.keep k d _ a) (Dts.keep k ds _ b)
end
mutual
theorem Dt.dp : ∀ (d : PyData) (v : V), Dt K H v d → Dp K H v d
  | .int _, _, h => by cases h; exact .int _
  | .str _, _, h => by cases h; exact .str _
  | .tuple ds, _, h => by
    cases h with
    | tup a b => exact .tup a (Dts.dp ds _ b)
  | .none, _, h => by cases h
  | .bool _, _, h => by cases h
  | .list _, _, h => by cases h
  | .dict _, _, h => by cases h
theorem Dts.dp : ∀ (ds : List PyData) (vs : List V), Dts K H vs ds → DpAll K H vs ds
  | [], _, h => by cases h; exact .nil
  | d :: ds, _, h => by
    cases h with
    | cons a b => exact .cons (Dt.dp d _ a) (Dts.dp ds _ b)
end
theorem Dt.k {d : PyData} {v : V} (h : Dt K H v d) (k : Kt K H H') : Dt K H' v d := Dt.keep k _ _ h
theorem Dts.k {ds : List PyData} {vs : List V} (h : Dts K H vs ds) (k : Kt K H H') : Dts K H' vs ds := Dts.keep k _ _ h
theorem Dt.toDp {d : PyData} {v : V} (h : Dt K H v d) : Dp K H v d := Dt.dp _ _ h
theorem Dts.toDp {ds : List PyData} {vs : List V} (h : Dts K H vs ds) : DpAll K H vs ds := Dts.dp _ _ h
theorem Dt.inv {ds : List PyData} {v : V} (h : Dt K H v (.tuple ds)) : ∃ p xs, v = .ref p ∧ SqT K H p xs ∧ Dts K H xs ds := by
  cases h with
  | tup a b => exact ⟨_, _, rfl, a, b⟩
theorem Dt.str_inv {x : Str} {v : V} (h : Dt K H v (.str x)) : v = .str x := by cases h; rfl
theorem Dt.int_inv {i : Int} {v : V} (h : Dt K H v (.int i)) : v = .int i := by cases h; rfl
theorem Dts.len {ds : List PyData} {vs : List V} (h : Dts K H vs ds) : vs.length = ds.length := by
  induction ds generalizing vs with
  | nil => cases h; rfl
  | cons d ds ih =>
    cases h with
    | cons a b => rw [List.length_cons, List.length_cons, ih b]
theorem Dts.at {i : Nat} {ds : List PyData} {vs : List V} {v : V} (h : Dts K H vs ds) (g : vs[i]? = some v) : ∃ d, ds[i]? = some d ∧ Dt K H v d := by
  induction ds generalizing vs i with
  | nil =>
    cases h
    simp at g
  | cons d ds ih =>
    cases h with
    | cons a b =>
      cases i with
      | zero =>
        simp at g
        subst g
        exact ⟨d, rfl, a⟩
      | succ i => exact ih b (by simpa using g)
theorem Dts.get {i : Nat} {ds : List PyData} {vs : List V} {d : PyData} (h : Dts K H vs ds) (g : ds[i]? = some d) : ∃ v, vs[i]? = some v ∧ Dt K H v d := by
  have li := (List.getElem?_eq_some_iff.mp g).1
  obtain ⟨v, e⟩ : ∃ v, vs[i]? = some v := ⟨_, List.getElem?_eq_getElem (by rw [h.len]; exact li)⟩
  obtain ⟨d2, e2, a⟩ := h.at e
  rw [g] at e2
  cases e2
  exact ⟨v, e, a⟩
theorem Dts.app {ds es : List PyData} {vs ws : List V} (h : Dts K H vs ds) (g : Dts K H ws es) : Dts K H (vs ++ ws) (ds ++ es) := by
  induction ds generalizing vs with
  | nil => cases h; exact g
  | cons d ds ih =>
    cases h with
    | cons a b => exact .cons a (ih b)
theorem Dts.snoc {ds : List PyData} {d : PyData} {vs : List V} {v : V} (h : Dts K H vs ds) (g : Dt K H v d) : Dts K H (vs ++ [v]) (ds ++ [d]) := h.app (.cons g .nil)
theorem Dts.take {ds : List PyData} {vs : List V} (h : Dts K H vs ds) : ∀ n, Dts K H (vs.take n) (ds.take n) := by
  induction ds generalizing vs with
  | nil => cases h; intro n; simp; exact .nil
  | cons d ds ih =>
    cases h with
    | cons a b =>
      intro n
      cases n with
      | zero => exact .nil
      | succ n => exact .cons a (ih b n)
theorem Dts.drop {ds : List PyData} {vs : List V} (h : Dts K H vs ds) : ∀ n, Dts K H (vs.drop n) (ds.drop n) := by
  induction ds generalizing vs with
  | nil => cases h; intro n; simp; exact .nil
  | cons d ds ih =>
    cases h with
    | cons a b =>
      intro n
      cases n with
      | zero => exact .cons a b
      | succ n => exact ih b n
theorem dts_str : ∀ ss : List Str, Dts K H (ss.map V.str) (ss.map PyData.str)
  | [] => .nil
  | s :: ss => .cons (.str s) (dts_str ss)
theorem dts_str_inv {ss : List Str} {vs : List V} (h : Dts K H vs (ss.map PyData.str)) : vs = ss.map V.str := by
  induction ss generalizing vs with
  | nil => cases h; rfl
  | cons s ss ih =>
    cases h with
    | cons a b => rw [a.str_inv, ih b]; rfl
theorem dts_int : ∀ ns : List Int, Dts K H (ns.map V.int) (ns.map PyData.int)
  | [] => .nil
  | s :: ss => .cons (.int s) (dts_int ss)
theorem dts_int_inv {ns : List Int} {vs : List V} (h : Dts K H vs (ns.map PyData.int)) : vs = ns.map V.int := by
  induction ns generalizing vs with
  | nil => cases h; rfl
  | cons s ss ih =>
    cases h with
    | cons a b => rw [a.int_inv, ih b]; rfl
theorem dt_tup {p : Addr} {xs : List V} {ds : List PyData} (h : H p = some (.tup xs)) (g : Dts K H xs ds) : Dt K H (.ref p) (.tuple ds) := .tup (SqT.of h) g
end
/-- data that == may be asked of: texts in the line, not deep -/
def Fine (n : Nat) (d : PyData) : Prop := d.canLay0 = true ∧ d.depth ≤ n
theorem fine_int {n : Nat} (i : Int) : Fine n (.int i) := ⟨by simp [PyData.canLay0], by simp [PyData.depth]⟩
theorem fine_tup {n : Nat} {ds : List PyData} (h : ∀ d ∈ ds, Fine n d) : Fine (n + 1) (.tuple ds) := by
  have q : PyData.canLayAll0 ds = true ∧ PyData.depthAll ds ≤ n := by
    induction ds with
    | nil => simp [PyData.canLayAll0, PyData.depthAll]
    | cons d ds ih =>
      have h1 := h d (by simp)
      have h2 := ih fun y m => h y (List.mem_cons_of_mem _ m)
      simp only [PyData.canLayAll0, PyData.depthAll, h1.1, h2.1, Bool.and_self, true_and]
      have := h1.2
      have := h2.2
      omega
  exact ⟨by simp only [PyData.canLay0]; exact q.1, by simp only [PyData.depth]; have := q.2; omega⟩
theorem fine_str {n : Nat} {x : Str} (h : x.cps.all (· < 0x110000) = true) : Fine n (.str x) := ⟨by simp only [PyData.canLay0]; exact h, by simp [PyData.depth]⟩
theorem fine_num {n : Nat} {ds : List Nat} (h : ∀ d ∈ ds, d ≤ 9) : Fine n (.str (numS ds)) := by
  refine fine_str ?_
  rw [← Array.all_toList, List.all_eq_true]
  intro c m
  obtain ⟨d, md, rfl⟩ := List.mem_map.mp (show c ∈ codes ds from m)
  have := h d md
  exact decide_eq_true (by omega)
theorem Fine.shaped {n : Nat} {d : PyData} (h : Fine n d) (l : n ≤ 64) : SeqAt.shaped d = true := by
  have e : decide (d.depth ≤ 64) = true := decide_eq_true (Nat.le_trans h.2 l)
  show (d.canLay0 && _) = true
  rw [e, Bool.and_true]
  exact h.1
theorem Fine.refl {n : Nat} {d : PyData} (h : Fine n d) : PyData.eqv d d = true := SeqAt.eqv_refl d h.1
theorem Fine.mono {n m : Nat} {d : PyData} (h : Fine n d) (l : n ≤ m) : Fine m d := ⟨h.1, Nat.le_trans h.2 l⟩
end Dv

/-! A list or a tuple, told by a letter; loops over it that may write elsewhere. -/
namespace Kd
open PySem PySem.Spec PyProof.Rows L2
/-- the list or (t) the tuple at a -/
def Is (K : PySem.W.Frag) (t : Bool) (H : Hp) (a : Addr) (xs : List V) : Prop := if t = true then SqT K H a xs else SqL K H a xs
theorem Is.keep {K : PySem.W.Frag} {t : Bool} {H H' : Hp} {a : Addr} {xs : List V} (s : Same H H') (h : Is K t H a xs) : Is K t H' a xs := by
  cases t
  · exact Hf.keepL s h
  · exact Hf.keepT s h
theorem Is.sq {K : PySem.W.Frag} {t : Bool} {H : Hp} {a : Addr} {xs : List V} (h : Is K t H a xs) : SqL K H a xs ∨ SqT K H a xs := by
  cases t
  · exact .inl h
  · exact .inr h
theorem Is.tup {K : PySem.W.Frag} {H : Hp} {a : Addr} {xs : List V} (h : SqT K H a xs) : Is K true H a xs := h
theorem Is.lst {K : PySem.W.Frag} {H : Hp} {a : Addr} {xs : List V} (h : SqL K H a xs) : Is K false H a xs := h
section
variable {X : Cx}
def iSeq (K : PySem.W.Frag) (tl : TE) : TI := fun σ H R => tl σ H fun x H1 => ∃ a xs t, x = .ref a ∧ Is K t H1 a xs ∧
  ∀ J G, Walk J xs.length G (YAt xs) → (∀ H', Is K t H' a xs → G H') → R J H1
theorem pi_seq {tg l : Expr} {tl : TE} (hl : PE X l tl) : PI X tg l (iSeq X.K tl) := by
  refine ⟨fun pins s σ H R I h => ?_⟩
  refine thn (hl.run pins s σ H _ I h) fun v s1 ⟨x, H1, I1, r1, q1⟩ => ?_
  obtain ⟨a, xs, t, e, hq, q⟩ := q1
  subst e
  cases r1
  cases t with
  | false =>
    have hq : SqL X.K H1 a xs := hq
    have q := q _ _ walk_list fun H' s => s
    obtain ⟨its, rv, p, hz⟩ := I1.list hq
    refine wpAny_pyIter_list p.isList ?_
    refine ⟨s1.heap.objs.size, [s1.heap.objs.size], _, _, H1, rfl, I1.kept (t' := s1.toks) fun b o e => Heap.get?_push_of_some _ e, turn_list a _, ⟨_, Heap.get?_push_size _ rfl, rfl, rfl⟩, fun b hb => ?_, q⟩
    have e : b = s1.heap.objs.size := by simpa using hb
    subst e
    exact I1.fpOk (Nat.le_refl _) (I1.hok.fresh (Nat.le_refl _))
  | true =>
    have hq : SqT X.K H1 a xs := hq
    have q := q _ _ walk_tup fun H' s => s
    obtain ⟨its, rv, p, hz⟩ := I1.tuple hq
    refine wpAny_pyIter_tuple (show s1.heap.IsTuple a its.toArray from p) ?_
    refine ⟨s1.heap.objs.size, [s1.heap.objs.size], _, _, H1, rfl, I1.kept (t' := s1.toks) fun b o e => Heap.get?_push_of_some _ e, turn_tuple a _, ⟨_, Heap.get?_push_size _ rfl, rfl, rfl⟩, fun b hb => ?_, q⟩
    have e : b = s1.heap.objs.size := by simpa using hb
    subst e
    exact I1.fpOk (Nat.le_refl _) (I1.hok.fresh (Nat.le_refl _))
end
end Kd

/-! Comprehensions whose items are told one by one. -/
namespace Lm
open PySem L2 Wm Dv
theorem list_is {α : Type} {ys zs : List α} (l : ys.length = zs.length) (h : ∀ (i : Nat) y, ys[i]? = some y → zs[i]? = some y) : ys = zs := by
  refine List.ext_getElem? fun i => ?_
  by_cases q : i < ys.length
  · rw [h i _ (List.getElem?_eq_getElem q), List.getElem?_eq_getElem q]
  · rw [List.getElem?_eq_none (by omega), List.getElem?_eq_none (by omega)]
theorem lc_map {K : PySem.W.Frag} {J : It} {n : Nat} {G : Hp → Prop} {xs : List V} (w : Walk J n G (YAt xs)) {g : TG} {te : TE} {vs : List Nat} {σ : L2.St} {H1 : Hp} {D : Addr} {Qd : Hp → Prop} (R : Nat → V → Hp → Prop)
    (mono : ∀ i y H H', R i y H → Kt K H H' → R i y H') (hD : H1 D = none) (hn : n ≤ 1000) (hG : ∀ H', Same H1 H' → G H')
    (hs : ∀ i x H', i < n → xs[i]? = some x → Same H1 H' → ∀ (Q : V → Hp → Prop) (Z : Hp → Prop), (∀ y H4, Same H' H4 → R i y H4 → Q y H4) → g x (wipe σ vs) H' fun σ2 H2 => wipe σ2 vs = wipe σ vs ∧ tYes σ2 H2 fun b H3 => if b = true then te σ2 H3 Q else Z H3)
    (hd : ∀ H ys, Same H1 H → H D = some (.lst ys) → ys.length = n → (∀ (i : Nat) y, ys[i]? = some y → R i y H) → Qd H) :
    ∃ W : Nat → Nat → Hp → Prop, (∃ m, W 0 m (upd H1 D (.lst []))) ∧ ∀ i m H, W i m H →
      (J.stop i H ∧ Qd H) ∨ (J.go i H ∧ ∃ Nx : Hp → Prop, (∀ H', Nx H' → ∃ m', m' < m ∧ W (i + 1) m' H') ∧ ∀ x H', J.yld i H x H' → g x (wipe σ vs) H' fun σ2 H2 => wipe σ2 vs = wipe σ vs ∧ tYes σ2 H2 fun b H3 =>
        if b = true then te σ2 H3 fun y H4 => ∃ acc, H4 D = some (.lst acc) ∧ acc.length < sizeLine ∧ Nx (upd H4 D (.lst (acc ++ [y]))) else Nx H3) := by
  refine lc_it (tt := tYes) w (fun i H => Same H1 H ∧ ∃ ys : List V, ys.length = i ∧ H D = some (.lst ys) ∧ ∀ j y, ys[j]? = some y → R j y H) ⟨same_new hD, [], rfl, upd_same, fun (j : Nat) (y : V) e => by simp at e⟩ (fun i H _ h => hG H h.1) (fun i x H H' hi hP hY => ?_) (fun H hP => ?_)
  · obtain ⟨sm, ys, el, hy, hR⟩ := hP
    obtain ⟨rfl, hx⟩ := hY
    refine hs i x H' hi hx sm _ _ (fun y H4 s4 r4 => ?_)
    · refine ⟨ys, s4 _ _ hy, by rw [el]; exact small1000 (by omega), same_mut (sm.trans s4) hD, ys ++ [y], by rw [List.length_append, el]; rfl, upd_same, fun j z hz => ?_⟩
      have k5 : Kt K H4 (upd H4 D (.lst (ys ++ [y]))) := Kt.lst (s4 _ _ hy)
      by_cases lj : j < ys.length
      · rw [List.getElem?_append_left lj] at hz
        exact mono _ _ _ _ (hR j z hz) ((Kt.same s4).trans k5)
      · rw [List.getElem?_append_right (by omega)] at hz
        have e0 : j - ys.length = 0 := by
          by_cases q : j - ys.length = 0
          · exact q
          · rw [List.getElem?_eq_none (by rw [List.length_singleton]; omega)] at hz
            cases hz
        rw [e0] at hz
        have ez : y = z := by simpa using hz
        have ej : j = i := by omega
        subst ez ej
        exact mono _ _ _ _ r4 k5
  · obtain ⟨sm, ys, el, hy, hR⟩ := hP
    exact hd H ys sm hy el hR
end Lm
namespace Kx
open PySem L2
def rLen (K : PySem.W.Frag) : List V → Hp → VK → Prop := fun xs H Q => ∃ p ys, xs = [.ref p] ∧ (SqL K H p ys ∨ SqT K H p ys) ∧ Q (.int (ys.length : Nat)) H
def rTup (K : PySem.W.Frag) : List V → Hp → VK → Prop := fun xs H Q => ∃ a ys, xs = [.ref a] ∧ SqT K H a ys ∧ Q (.ref a) H
def rTupOf (K : PySem.W.Frag) : List V → Hp → VK → Prop := fun xs H Q => ∃ p ys, xs = [.ref p] ∧ ((SqL K H p ys ∧ ∀ l, H l = none → Q (.ref l) (upd H l (.tup ys))) ∨ (SqT K H p ys ∧ Q (.ref p) H))
end Kx

/-! A method with keywords alone; a def that may raise, where it does not. -/
namespace Mk1
open PySem PySem.Spec PyProof.Rows L2
theorem passF {X : Cx} : Passes (L2.CX X.prog X.w) X (fun _ _ _ => False) := by
  intro pins σ H s e s' I h
  obtain ⟨_, _, _, _, _, _, _, _, _, _, _, _, z⟩ := h
  exact z.elim
section
variable {X : Cx} {CX : CXT} {k : Nat} {f C : Addr} {fd : FuncData} {ps ks : List Str} {sp : Sp} {E : XK} {m : Str} {pos apos : Pos} {o : Expr} {kws : List Keyword} {ta : TE} {tk : TA} {g : List Value → List Value → List Value} {gV : List V → List V → List V} {pl : Sem Bool}
def tMethN (C : Addr) (m : Str) (n : Nat) (sp : Sp) (gV : List V → List V → List V) (E : XK) (ta : TE) (tk : TA) : TE := fun σ H Q => ta σ H fun x H1 => ∃ a dx fs, x = .ref a ∧ H1 a = some (.ins C dx fs) ∧ fs.lookup m = none ∧
  tk σ H1 fun zs H2 => zs.length = n ∧ sp (gV [x] zs) H2 Q E
theorem pe_methN (ho : PE X o ta) (c : Cls X.K C) (hm : Meth X.K C m f) (F : FnOk X.prog X.w X.K X.mg X.base CX k f fd ps sp) (hr : Room k X.A) (hb : KBn X.K fd ps 1 ks g gV) (hx : Passes CX X E) (hk : PK X kws tk)
    (h1 : (backToKw pos (keywordEach kws X.env)).all (·.1.isSome) = true := by rfl) (h2 : (backToKw pos (keywordEach kws X.env)).filterMap (·.1) = ks := by rfl)
    (h3 : ((backTo pos (starEach [] X.env)).any (·.1) || (backToKw pos (keywordEach kws X.env)).any (·.1.isNone)) = false := by rfl)
    (h4 : eval (.Call (.Attribute o m apos) [] kws pos) X.env = (do
      let v ← eval o X.env
      standAt apos.atName
      let (a, b) ← holding [v] (getMethod v m pl)
      callWith pos a b (backTo pos (starEach [] X.env)) (backToKw pos (keywordEach kws X.env))) := by rfl) :
    PE X (.Call (.Attribute o m apos) [] kws pos) (tMethN C m ks.length sp gV E ta tk) := by
  constructor
  intro pins s σ H Q I h
  refine PySem.W.methodCall_KW (pl := pl) (thn (ho.run pins s σ H _ I h) fun u s1 w => ?_) h4
  obtain ⟨x, H1, I1, rx, a, dx, fs, ex, ea, l, q⟩ := w
  subst ex
  cases (show u = Value.ref a from rx)
  refine getmeth_ok I1 ea c hm l ?_
  refine PySem.W.callWith_KW0 (first := [.ref a]) (h₀ := X.base) I.ok.mod.kin hm.kp h1 (thn (hk.run pos pins s1 σ H1 _ I1 q) fun ws s2 w2 => ?_) h3
  obtain ⟨zs, H2, I2, rz, l2, q2⟩ := w2
  refine ⟨I2.kIn, ?_⟩
  rw [h2]
  exact run_fnN (us := [.ref a]) (vs := [.ref a]) F hr hb hx I2 (.cons rfl .nil) rz rfl l2 q2
end
end Mk1

/-! Operators of own classes, by values: ==, <, .. by __eq__, __lt__, ..; |, &, - by __or__, ..; in by __contains__; len by __len__. -/
namespace Ow
open PySem PySem.Spec PyProof.Rows L2
section
variable {X : Cx} {CX : CXT} {C g : Addr} {n : Nat} {sp : Sp} {E : XK}
theorem ins_at {pins : List (Addr × Obj)} {σ : L2.St} {H : Hp} {s : Shared} {a C dx : Addr} {fs : List (Str × V)} (I : Inv X pins σ H s) (e : H a = some (.ins C dx fs)) : ∃ ox od, PySem.W.InstAt s.heap a ox C od := by
  obtain ⟨mA, O, _⟩ := ins_get I.hok e
  obtain ⟨od, J, _⟩ := O.look
  exact ⟨_, _, J⟩
/-- x op y by the own def of x's class at C; y's class not below C -/
def rCmp (K : PySem.W.Frag) (C : Addr) (sp : Sp) (E : XK) : R2 := fun x y H Q => ∃ a dx fs t, x = .ref a ∧ H a = some (.ins C dx fs) ∧ TyX K H y t ∧ PySem.W.notFirst K C t = true ∧ sp [x, y] H Q E
theorem op_cmp {op : CmpOp} (hop : ∀ a b, compareOp op a b = richCompare op a b) (hs : PySem.W.findIn X.K (.ref C) (cmpInfo op).2.1 = some (some (.ref g))) (hf : PySem.W.isFn X.K (.ref g) = true) (F : FnR X.prog X.w X.K X.mg X.base CX n g sp)
    (hr : Room n X.A) (hx : Passes CX X E) : OpR X (compareOp op) (rCmp X.K C sp E) := by
  intro pins s σ H x y v u Q I rx ry h
  obtain ⟨a, dx, fs, t, rfl, ha, ty, hn, q⟩ := h
  cases (show v = Value.ref a from rx)
  obtain ⟨ox, od, J⟩ := ins_at I ha
  obtain ⟨P, k, hp, _⟩ := kit_of I ry ty
  obtain ⟨m, hF⟩ := I.fr
  rw [hop]
  refine PySem.W.cmp_K (op := op) (tb := t) hr.units0 hF I.ok.mod.kin J (k.ty _ _ I.kIn hp) hn hs hf ?_
  refine wpAny_mono (wpAny_call (run_fnR (us := [.ref a, u]) (vs := [.ref a, y]) F hr hx I (.cons rfl (.cons ry .nil)) q)) (fun w s' z => ?_) fun _ _ x => x
  obtain ⟨z', H', I', rz, qz⟩ := z
  exact SlX.cmpback rz ⟨z', H', I', rz, qz⟩
/-- x op y, both of the class at C -/
def rBin (C : Addr) (sp : Sp) (E : XK) : R2 := fun x y H Q => ∃ a dx fs b dy gs, x = .ref a ∧ y = .ref b ∧ H a = some (.ins C dx fs) ∧ H b = some (.ins C dy gs) ∧ sp [x, y] H Q E
theorem op_bin {op : Operator} (hc : PySem.W.selfFirst X.K C = true) (hs : PySem.W.findIn X.K (.ref C) (PySem.dunder op.info.2) = some (some (.ref g))) (hf : PySem.W.isFn X.K (.ref g) = true) (F : FnR X.prog X.w X.K X.mg X.base CX n g sp)
    (hr : Room n X.A) (hx : Passes CX X E) : OpR X (binaryOp op) (rBin C sp E) := by
  intro pins s σ H x y v u Q I rx ry h
  obtain ⟨a, dx, fs, b, dy, gs, rfl, rfl, ha, hb, q⟩ := h
  cases (show v = Value.ref a from rx)
  cases (show u = Value.ref b from ry)
  obtain ⟨ox, od, J⟩ := ins_at I ha
  obtain ⟨oy, oe, J'⟩ := ins_at I hb
  obtain ⟨m, hF⟩ := I.fr
  refine PySem.W.binop_K (op := op) hF I.ok.mod.kin J J'.type hc hs hf ?_
  refine wpAny_mono (wpAny_call (run_fnR (us := [.ref a, .ref b]) (vs := [.ref a, .ref b]) F hr hx I (.cons rfl (.cons rfl .nil)) q)) (fun w s' z => ?_) fun _ _ x => x
  obtain ⟨z', H', I', rz, qz⟩ := z
  exact SlX.cmpback rz ⟨z', H', I', rz, qz⟩
/-- y in x, by __contains__ (its answer a bool) -/
def rIn (C : Addr) (sp : Sp) (E : XK) (neg : Bool) : R2 := fun y x H Q => ∃ a dx fs, x = .ref a ∧ H a = some (.ins C dx fs) ∧ sp [x, y] H (fun z H' => ∃ c, z = .bl c ∧ Q (.bl (if neg then !c else c)) H') E
theorem op_in (hs : PySem.W.findIn X.K (.ref C) "__contains__" = some (some (.ref g))) (hf : PySem.W.isFn X.K (.ref g) = true) (F : FnR X.prog X.w X.K X.mg X.base CX n g sp)
    (hr : Room n X.A) (hx : Passes CX X E) : OpR X (compareOp .In) (rIn C sp E false) := by
  intro pins s σ H y x u v Q I ry rx h
  obtain ⟨a, dx, fs, rfl, ha, q⟩ := h
  cases (show v = Value.ref a from rx)
  obtain ⟨ox, od, J⟩ := ins_at I ha
  obtain ⟨m, hF⟩ := I.fr
  refine PySem.W.in_K hF I.ok.mod.kin J hs hf ?_
  refine wpAny_mono (wpAny_call (run_fnR (us := [.ref a, u]) (vs := [.ref a, y]) F hr hx I (.cons rfl (.cons ry .nil)) q)) (fun w s' z => ?_) fun _ _ x => x
  obtain ⟨z', H', I', rz, c, rfl, qz⟩ := z
  cases (show w = Value.bool c from rz)
  exact wpAny_truthy_bool ⟨.bl c, H', I', rfl, qz⟩
theorem op_notIn (hs : PySem.W.findIn X.K (.ref C) "__contains__" = some (some (.ref g))) (hf : PySem.W.isFn X.K (.ref g) = true) (F : FnR X.prog X.w X.K X.mg X.base CX n g sp)
    (hr : Room n X.A) (hx : Passes CX X E) : OpR X (compareOp .NotIn) (rIn C sp E true) := by
  intro pins s σ H y x u v Q I ry rx h
  obtain ⟨a, dx, fs, rfl, ha, q⟩ := h
  cases (show v = Value.ref a from rx)
  obtain ⟨ox, od, J⟩ := ins_at I ha
  obtain ⟨m, hF⟩ := I.fr
  refine PySem.W.notIn_K hF I.ok.mod.kin J hs hf ?_
  refine wpAny_mono (wpAny_call (run_fnR (us := [.ref a, u]) (vs := [.ref a, y]) F hr hx I (.cons rfl (.cons ry .nil)) q)) (fun w s' z => ?_) fun _ _ x => x
  obtain ⟨z', H', I', rz, c, rfl, qz⟩ := z
  cases (show w = Value.bool c from rz)
  exact wpAny_truthy_bool ⟨.bl (!c), H', I', rfl, qz⟩
/-- len(x), by __len__ -/
def rLen (C : Addr) (sp : Sp) (E : XK) : List V → Hp → VK → Prop := fun xs H Q => ∃ a dx fs, xs = [V.ref a] ∧ H a = some (.ins C dx fs) ∧ sp [.ref a] H (fun z H' => ∃ i : Int, z = .int i ∧ 0 ≤ i ∧ i < 2 ^ 63 ∧ Q (.int i) H') E
theorem call_len (hs : PySem.W.findIn X.K (.ref C) "__len__" = some (some (.ref g))) (hf : PySem.W.isFn X.K (.ref g) = true) (F : FnR X.prog X.w X.K X.mg X.base CX n g sp)
    (hr : Room (n + 1) X.A) (hx : Passes CX X E) : CallR X (.builtin "len") (rLen C sp E) := by
  intro pins s σ H xs us Q I r h
  obtain ⟨a, dx, fs, rfl, ha, q⟩ := h
  obtain ⟨u, rfl, ru⟩ := r.one
  cases (show u = Value.ref a from ru)
  obtain ⟨ox, od, J⟩ := ins_at I ha
  obtain ⟨m, hF⟩ := I.fr
  refine PySem.W.len_K hF I.ok.mod.kin J hs hf (wpAny_mono (wpAny_call (SlX.run_at (us := [.ref a]) (ws := [.ref a]) F hr.in1 I.env0.in1 hx I (.cons rfl .nil) q)) (fun w s' z => ?_) fun _ _ x => x)
  obtain ⟨z', H', I', rz, i, rfl, h0, h1, qz⟩ := z
  obtain ⟨t, e⟩ := (show ∃ t, w = Value.int i t from rz)
  cases e
  exact ⟨⟨h0, h1⟩, .int i, H', I'.tok _, ⟨_, rfl⟩, qz⟩
end
end Ow

/-! The source of draws as a list: its cells, a place, the wide number, the seed, the count. -/
namespace Wm
open PySem L2
/-- the source's list at b, its cells at c -/
def Cl2 (H : Hp) (b c : Addr) : Prop := ∃ k x y z : Int, H b = some (.lst [.ref c, .int k, .int x, .int y, .int z])
structure Bt (b : Addr) (H H' : Hp) : Prop where
  keep : ∀ p o, p ≠ b → H p = some o → H' p = some o
  cel : ∀ c, Cl2 H b c → Cl2 H' b c
instance {b : Addr} {H H' : Hp} : CoeFun (Bt b H H') (fun _ => ∀ p o, p ≠ b → H p = some o → H' p = some o) := ⟨Bt.keep⟩
theorem Bt.refl (b : Addr) (H : Hp) : Bt b H H := ⟨fun _ _ _ h => h, fun _ h => h⟩
theorem Bt.trans {b : Addr} {H H1 H2 : Hp} (x : Bt b H H1) (y : Bt b H1 H2) : Bt b H H2 := ⟨fun p o n h => y.keep p o n (x.keep p o n h), fun c h => y.cel c (x.cel c h)⟩
theorem Bt.of {b : Addr} {H H' : Hp} (s : Same H H') : Bt b H H' := ⟨fun p o _ h => s p o h, fun _ ⟨x, k, m, z, h⟩ => ⟨x, k, m, z, s _ _ h⟩⟩
theorem Bt.set {b c : Addr} {H : Hp} {k x y z k' x' y' z' : Int} (hb : H b = some (.lst [.ref c, .int k, .int x, .int y, .int z])) : Bt b H (upd H b (.lst [.ref c, .int k', .int x', .int y', .int z'])) :=
  ⟨fun p u n h => by
    rw [upd_ne n]
    exact h, fun c2 ⟨a1, a2, a3, a4, h⟩ => by
    rw [hb] at h
    have h := Option.some.inj h
    injection h with h
    injection h with h1 h
    injection h1 with h1
    subst h1
    exact ⟨k', x', y', z', upd_same⟩⟩
/-- the source of draws after at most n of them -/
def Bg (H : Hp) (b : Addr) (n : Nat) : Prop :=
  ∃ (c : Addr) (k x y z : Int) (ns : List Int), H b = some (.lst [.ref c, .int k, .int x, .int y, .int z]) ∧ H c = some (.lst (ns.map V.int)) ∧ 0 ≤ k ∧ 0 ≤ x ∧ 0 ≤ y ∧ y < 2147483648 ∧ 0 ≤ z ∧ z ≤ (n : Int)
theorem bg_ne {H : Hp} {b c : Addr} {k x y z : Int} {ns : List Int} (hb : H b = some (.lst [.ref c, .int k, .int x, .int y, .int z])) (hc : H c = some (.lst (ns.map V.int))) : c ≠ b := by
  intro e
  subst e
  rw [hb] at hc
  have q := Option.some.inj hc
  have q2 : ([.ref c, .int k, .int x, .int y, .int z] : List V) = ns.map V.int := by injection q
  cases ns with
  | nil => simp at q2
  | cons u r => simp at q2
theorem Bg.mono {H : Hp} {b : Addr} {n m : Nat} (h : Bg H b n) (l : n ≤ m) : Bg H b m := by
  obtain ⟨c, k, x, y, z, ns, h1, h2, h3, h4, h5, h6, h7, h8⟩ := h
  exact ⟨c, k, x, y, z, ns, h1, h2, h3, h4, h5, h6, h7, by omega⟩
theorem Bg.keep {H H' : Hp} {b : Addr} {n : Nat} (h : Bg H b n) (s : Same H H') : Bg H' b n := by
  obtain ⟨c, k, x, y, z, ns, h1, h2, h3⟩ := h
  exact ⟨c, k, x, y, z, ns, s _ _ h1, s _ _ h2, h3⟩
theorem Bg.off {H : Hp} {b D : Addr} {n : Nat} (h : Bg H b n) (f : H D = none) : D ≠ b := by
  obtain ⟨c, k, x, y, z, ns, h1, h2, h3⟩ := h
  exact (ne_of_none h1 f).symm
theorem Cl2.uniq {H : Hp} {b c d : Addr} (h : Cl2 H b c) (g : Cl2 H b d) : c = d := by
  obtain ⟨x, k, m, z, h⟩ := h
  obtain ⟨x', k', m', z', g⟩ := g
  rw [h] at g
  have g := Option.some.inj g
  injection g with g
  injection g with g1 g
  injection g1
theorem Bt.put {b D : Addr} {H H' : Hp} {o : HO} (e : Bt b H H') (n : H D = none) : Bt b H (upd H' D o) := by
  refine ⟨fun p u pb h => ?_, fun c h => ?_⟩
  · rw [upd_ne (ne_of_none h n)]
    exact e.keep p u pb h
  · have h0 := h
    obtain ⟨x, k, m, z, h⟩ := h
    obtain ⟨x', k', m', z', g⟩ := e.cel c h0
    exact ⟨x', k', m', z', by rw [upd_ne (ne_of_none h n)]; exact g⟩
/-- a list that is new since is filled: the source stays -/
theorem Bg.put {b D : Addr} {H H' : Hp} {o : HO} {n m : Nat} (bag : Bg H b n) (f : H D = none) (e : Bt b H H') (bag2 : Bg H' b m) : Bg (upd H' D o) b m := by
  obtain ⟨c, k, x, y, z, ns, h1, h2, h3⟩ := bag
  obtain ⟨c', k', x', y', z', ns', g1, g2, g3⟩ := bag2
  have ec : c = c' := Cl2.uniq (e.cel c ⟨k, x, y, z, h1⟩) ⟨k', x', y', z', g1⟩
  subst ec
  exact ⟨c, k', x', y', z', ns', by rw [upd_ne (ne_of_none h1 f)]; exact g1, by rw [upd_ne (ne_of_none h2 f)]; exact g2, g3⟩
end Wm

/-! set(xs) of a list or a tuple of ints, as a set object. -/
namespace Si
open PySem PySem.Spec PyProof.Rows
section
variable {prog : Program} {w : World} {A : Around} {E : Value → Shared → Prop} {s : Shared}
theorem code_led1 (a : Value) {Q₁ : Value → Shared → Prop}
    (h : Q₁ (.ref s.heap.objs.size) { s with heap := s.heap.push { cls := .type "set", dict := none, data := .set #[] 0 (.fresh 0 0 (!w.params.followText "set-order")) } }) :
    codeAny (model prog w) A (.call (.builtin "set.__new__") ⟨[.type "set", a], []⟩) (wants Q₁ E) s := by
  refine codeAny_of_tree ?_
  show wpAny _ A.in1 (do checkBuiltinCall "set.__new__" ⟨[.type "set", a], []⟩; again (.builtin "set.__new__" ⟨[.type "set", a], []⟩)) _ _ s
  refine wpAny_bind (wpAny_of_eq (F.newCall_set_1 a) (wpAny_pure ⟨plainId_quiet F.plain_set_new _, codeAny_builtin F.entry_set_new ?_⟩))
  rw [Around.under_plainId F.plain_set_new _]
  unfold Builtin.«set.__new__» Builtin.Frozenset.newClass
  have hsub := sub_set_self
  obtain ⟨hp, g, d, tk, os⟩ := s
  dsimp only
  wp_walk
  refine wpAny_askSetting (wpAny_pure ?_)
  dsimp only
  simp only [newObj]
  refine wpAny_bind (wpAny_alloc (wpAny_pure ?_))
  exact wpAny_pure h
theorem ints_len : ∀ {vs : List Value} {xs : List Int}, IntsAre vs xs → vs.length = xs.length
  | _, _, .nil => rfl
  | _, _, .cons _ _ h => by rw [List.length_cons, List.length_cons, ints_len h]
theorem ints_at : ∀ {vs : List Value} {xs : List Int}, IntsAre vs xs → ∀ (i : Nat) v, vs[i]? = some v → ∃ x t, xs[i]? = some x ∧ v = .int x t
  | _, _, .nil, i, v, e => by simp at e
  | _, _, .cons x t h, 0, v, e => ⟨x, t, rfl, by simpa using e.symm⟩
  | _, _, .cons _ _ h, i + 1, v, e => by
    obtain ⟨x, t, e1, e2⟩ := ints_at h i v (by simpa using e)
    exact ⟨x, t, by simpa using e1, e2⟩
abbrev so (led : Bool) : Obj := { cls := .type "set", dict := none, data := .set #[] 0 (.fresh 0 0 led) }
theorem fill {R : Result → Shared → Prop} {I : Addr} {fp wr : List Addr} {G : Array GenState → Array GenState → Prop} {n : Nat} {P : Nat → Value → Prop} {St : Nat → Shared → Prop}
    (W : WalksS prog w A.in1 I fp wr G n P St) (S : Addr) (hSf : S ∉ fp) (xs : List Int) (hsz : xs.length = n) (hb : n + 1 < scanBound) (hval : ∀ i v, P i v → ∃ x t, xs[i]? = some x ∧ v = .int x t) :
    ∀ (k i : Nat) (s : Shared), n - i = k → i ≤ n → St i s → (∃ c, c ≤ i ∧ L2.SetR w s.heap S (fun y => decide (y ∈ xs.take i)) c) →
      (∀ s' c, Moved (S :: wr) G s s' → c ≤ n → L2.SetR w s'.heap S (fun y => decide (y ∈ xs.take n)) c → R (.ok (.ret .none)) s') →
      codeAny (model prog w) A (.builtin "set.update.loop" ⟨[.ref S, .ref I], []⟩) R s := by
  have nw : S ∉ wr := fun h => hSf (W.sub _ h)
  have more : ∀ b ∈ wr, b ∈ S :: wr := fun b hb => List.mem_cons_of_mem _ hb
  intro k
  induction k with
  | zero =>
    intro i s hk hi st ⟨c, hc, hS⟩ hR
    have e : i = n := by omega
    subst e
    refine codeAny_builtin PyProof.Rows.F.entry_set_update_loop ?_
    rw [Around.under_plainId PyProof.Rows.F.plain_set_update_loop _]
    show wpAny _ A.in1 (pyNext (.ref I) >>= _) _ _ s
    refine wpAny_bind (W.done s _ _ st fun s' hm => ?_)
    show wpAny _ A.in1 (ret Value.none) _ _ s'
    exact wpAny_pure (hR s' c (hm.mono more) hc (L2.SetR.at hS fun o e => hm.heap S o nw e))
  | succ k ih =>
    intro i s hk hi st ⟨c, hc, hS⟩ hR
    have lt : i < n := by omega
    refine codeAny_builtin PyProof.Rows.F.entry_set_update_loop ?_
    rw [Around.under_plainId PyProof.Rows.F.plain_set_update_loop _]
    show wpAny _ A.in1 (pyNext (.ref I) >>= _) _ _ s
    refine wpAny_bind (W.item i s _ _ lt st fun v s' hP st' hm => ?_)
    obtain ⟨x, t, hx, rfl⟩ := hval i v hP
    have hS1 := L2.SetR.at (h' := s'.heap) hS fun o e => hm.heap S o nw e
    show wpAny _ A.in1 (holding [Value.int x t] (setAdd S (.int x t)) >>= _) _ _ s'
    refine wpAny_bind (wpAny_holding ?_)
    unfold setAdd
    refine wpAny_holding ?_
    refine wpAny_bind ((PySem.intKind prog w).pyHash (k := x) (intKind_is _ _ _ _) ?_)
    refine L2.setR_add_hashed (s := { s' with toks := s'.toks + 1 }) hS1 (by omega) fun g same hS2 => ?_
    have hS3 := L2.SetR.congr (S' := fun y => decide (y ∈ xs.take (i + 1))) hS2 (fun y => by
      rw [List.take_add_one, hx]
      simp [List.mem_append])
    refine wpAny_pure ⟨plainId_quiet PyProof.Rows.F.plain_set_update_loop _, ih (i + 1) _ (by omega) lt (W.frame _ s' _ _ st' (Nat.le_succ _) fun b hb o e => ?_) ⟨_, (by split <;> omega), hS3⟩ fun s2 c2 m2 hc2 hS4 => ?_⟩
    · rw [same.2 b (fun h : b = S => hSf (by rw [← h]; exact hb))]
      exact e
    · refine hR s2 c2 (Moved.trans W.gtrans ((hm.mono more).then_heap (Nat.le_succ _) fun b o hb e => ?_) m2) hc2 hS4
      rw [same.2 b (fun h : b = S => hb (by rw [h]; exact List.mem_cons_self))]
      exact e
set_option maxHeartbeats 3200000 in
theorem set_ints {l : Addr} {its : Array Value} {xs : List Int} {Q : Value → Shared → Prop} (hh : A.handled = none) (hl : s.heap.IsList l its) (hi : PyProof.Rows.IntsAre its.toList xs) (hb : xs.length + 1 < scanBound)
    (q : ∀ (g : Heap) (tk c : Nat), c ≤ xs.length → L2.SetR w g s.heap.objs.size (fun y => decide (y ∈ xs)) c → (∀ b o, b < s.heap.objs.size → s.heap.get? b = some o → g.get? b = some o) → Q (.ref s.heap.objs.size) { s with heap := g, toks := tk }) :
    wpAny (model prog w) A (call (.type "set") [.ref l]) Q E s := by
  obtain ⟨c0, tl0, m0⟩ := PySem.F.called_set.mro
  have a1 := PySem.F.called_set.made
  have a2 := PySem.F.called_set.sub
  refine wpAny_call (codeAny_of_tree ?_)
  show wpAny _ _ (callAny (.type "set") _) _ _ _
  refine wpAny_pure ⟨Code.quiet_builtin _ (by decide +kernel), codeAny_builtin PySem.F.entry_type_call ?_⟩
  rw [Around.under_plain (weight_type_call_type "set" [.ref l] []) rfl]
  have a3 := PySem.F.called_set.notType
  have a4 := PySem.F.called_set.canCreate
  have a5 := PySem.F.typeCall_set_1 (.ref l)
  repeat (any_goals (first | assumption | wp_step))
  refine codeAny_mono (code_led1 (.ref l) (E := E) (Q₁ := fun ob s₁ => ob = .ref s.heap.objs.size ∧ s₁ = { s with heap := s.heap.push { cls := .type "set", dict := none, data := .set #[] 0 (.fresh 0 0 (!w.params.followText "set-order")) } }) ⟨rfl, rfl⟩) fun r s₁ hr => ?_
  cases r with
  | error e => exact hr
  | ok fl =>
    cases fl with
    | ret ob =>
      obtain ⟨rfl, rfl⟩ := hr
      generalize hso : ({ cls := .type "set", dict := none, data := .set #[] 0 (.fresh 0 0 (!w.params.followText "set-order")) } : Obj) = so
      have hfr : so.isFreed = false := by rw [← hso]; rfl
      have b1 : (s.heap.push so).get? s.heap.objs.size = some so := Heap.get?_push_size _ hfr
      have b2 : Shared.TypeIs { s with heap := s.heap.push so } (.ref s.heap.objs.size) "set" := ⟨_, b1, by rw [← hso]⟩
      have b3 := PySem.F.called_set.init.lookup
      have b4 := PySem.F.called_set.init.bind (.ref s.heap.objs.size)
      repeat (any_goals (first | assumption | wp_step))
      refine codeAny_mono (codeAny_call_builtin (R := wants (fun r s₂ => r = .none ∧ ∃ g tk c, s₂ = { s with heap := g, toks := tk } ∧ c ≤ xs.length ∧ L2.SetR w g s.heap.objs.size (fun y => decide (y ∈ xs)) c ∧
          (∀ b o, b < s.heap.objs.size → s.heap.get? b = some o → g.get? b = some o)) E) PySem.F.called_set.init.plain PySem.F.entry_set_init (check_set_init_1 b2 ?_)) fun r₂ s₂ hr₂ => ?_
      · obtain ⟨ol, hol, hcl, nl, hdl⟩ := hl
        obtain ⟨ocls, odict, odata, oslots⟩ := ol
        simp only at hcl hdl
        subst hcl hdl
        have hol' : (s.heap.push so).get? l = some { cls := .type "list", dict := odict, data := .seq its nl, slots := oslots } := Heap.get?_push_of_some _ hol
        have c1 := PySem.F.sub_list_set
        have c2 := PySem.F.sub_list_frozenset
        have c3 : (Value.type "list" == Value.type "dict") = false := by decide
        have hl1 : (s.heap.push so).IsList l its := ⟨_, hol', rfl, nl, rfl⟩
        unfold Builtin.«set.__init__» noKeywords Builtin.Frozenset.updateFrom
        generalize hPI : pyIter = PI
        have ll : l < s.heap.objs.size := Heap.lt_size hol
        have nI : ∀ ob : Obj, l ≠ (s.heap.push ob).objs.size := fun ob => by
          rw [Heap.size_push]
          exact Nat.ne_of_lt (Nat.lt_succ_of_lt ll)
        have nS : ∀ ob : Obj, s.heap.objs.size ∉ [(s.heap.push ob).objs.size, l] := fun ob => by
          rw [Heap.size_push]
          simp only [List.mem_cons, List.mem_singleton, List.not_mem_nil, or_false, not_or]
          exact ⟨Nat.ne_of_lt (Nat.lt_succ_self _), Nat.ne_of_gt ll⟩
        have nB : ∀ (ob : Obj) (b : Addr), b < s.heap.objs.size → b ≠ (s.heap.push ob).objs.size := fun ob b lb => by
          rw [Heap.size_push]
          exact Nat.ne_of_lt (Nat.lt_succ_of_lt lb)
        subst hso
        wp_walk
        subst hPI
        refine wpAny_pyIter_list hl1 ?_
        refine wpAny_bind (wpAny_runValue ?_)
        have hh3 : A.in1.in1.in1.handled = none := by simp [hh]
        have sz : xs.length = its.size := by rw [← ints_len hi, Array.length_toList]
        have hval : ∀ (i : Nat) (v : Value), its[i]? = some v → ∃ x t, xs[i]? = some x ∧ v = .int x t := fun i v hv => ints_at hi i v (by rw [Array.getElem?_toList]; exact hv)
        refine fill ((Walks.list hh3 _ l (nI (so (!w.params.followText "set-order"))) its).toS) s.heap.objs.size (nS (so (!w.params.followText "set-order"))) xs sz (by rw [← sz]; exact hb) hval (its.size - 0) 0 _ (by omega) (Nat.zero_le _)
          ⟨⟨_, Heap.get?_push_size _ rfl, rfl, rfl⟩, (hl1.push _)⟩ ?hS0 ?hR
        case hS0 =>
          exact ⟨0, Nat.le_refl _, L2.SetR.congr (L2.SetR.at (L2.setR_fresh w) fun o e => Heap.get?_push_of_some _ e) (fun _ => by simp)⟩
        case hR =>
          intro s' c' hm hc' hS'
          obtain ⟨g, g', d', tk', os'⟩ := s'
          have eg : g' = s.gens := hm.gens
          have ed : d' = s.drawn := hm.drawn
          have eo : os' = s.os := hm.os
          subst eg ed eo
          show wpAny _ _ _ _ _ _
          refine wpAny_pure ?_
          show wpAny _ _ (ret Value.none) _ _ _
          rw [← sz, List.take_length] at hS'
          rw [← sz] at hc'
          refine wpAny_pure ⟨rfl, g, tk', c', rfl, hc', hS', fun b o lb e => ?_⟩
          have n1 : b ≠ s.heap.objs.size := Nat.ne_of_lt lb
          have n2 := nB (so (!w.params.followText "set-order")) b lb
          exact hm.heap b o (by simp only [List.mem_cons, List.mem_singleton, List.not_mem_nil, or_false, not_or]; exact ⟨n1, n2⟩) (Heap.get?_push_of_some _ (Heap.get?_push_of_some _ e))
      · cases r₂ with
        | error e => exact hr₂
        | ok fl₂ =>
          cases fl₂ with
          | ret r =>
            obtain ⟨rfl, g, tk, c', rfl, hc', hS', hk'⟩ := hr₂
            repeat (any_goals (first | assumption | wp_step))
            exact q _ _ _ hc' hS' hk'
          | _ => exact hr₂.elim
    | _ => exact hr.elim
set_option maxHeartbeats 3200000 in
theorem set_intsT {l : Addr} {its : Array Value} {xs : List Int} {Q : Value → Shared → Prop} (hh : A.handled = none) (hl : s.heap.IsTuple l its) (hi : PyProof.Rows.IntsAre its.toList xs) (hb : xs.length + 1 < scanBound)
    (q : ∀ (g : Heap) (tk c : Nat), c ≤ xs.length → L2.SetR w g s.heap.objs.size (fun y => decide (y ∈ xs)) c → (∀ b o, b < s.heap.objs.size → s.heap.get? b = some o → g.get? b = some o) → Q (.ref s.heap.objs.size) { s with heap := g, toks := tk }) :
    wpAny (model prog w) A (call (.type "set") [.ref l]) Q E s := by
  obtain ⟨c0, tl0, m0⟩ := PySem.F.called_set.mro
  have a1 := PySem.F.called_set.made
  have a2 := PySem.F.called_set.sub
  refine wpAny_call (codeAny_of_tree ?_)
  show wpAny _ _ (callAny (.type "set") _) _ _ _
  refine wpAny_pure ⟨Code.quiet_builtin _ (by decide +kernel), codeAny_builtin PySem.F.entry_type_call ?_⟩
  rw [Around.under_plain (weight_type_call_type "set" [.ref l] []) rfl]
  have a3 := PySem.F.called_set.notType
  have a4 := PySem.F.called_set.canCreate
  have a5 := PySem.F.typeCall_set_1 (.ref l)
  repeat (any_goals (first | assumption | wp_step))
  refine codeAny_mono (code_led1 (.ref l) (E := E) (Q₁ := fun ob s₁ => ob = .ref s.heap.objs.size ∧ s₁ = { s with heap := s.heap.push { cls := .type "set", dict := none, data := .set #[] 0 (.fresh 0 0 (!w.params.followText "set-order")) } }) ⟨rfl, rfl⟩) fun r s₁ hr => ?_
  cases r with
  | error e => exact hr
  | ok fl =>
    cases fl with
    | ret ob =>
      obtain ⟨rfl, rfl⟩ := hr
      generalize hso : ({ cls := .type "set", dict := none, data := .set #[] 0 (.fresh 0 0 (!w.params.followText "set-order")) } : Obj) = so
      have hfr : so.isFreed = false := by rw [← hso]; rfl
      have b1 : (s.heap.push so).get? s.heap.objs.size = some so := Heap.get?_push_size _ hfr
      have b2 : Shared.TypeIs { s with heap := s.heap.push so } (.ref s.heap.objs.size) "set" := ⟨_, b1, by rw [← hso]⟩
      have b3 := PySem.F.called_set.init.lookup
      have b4 := PySem.F.called_set.init.bind (.ref s.heap.objs.size)
      repeat (any_goals (first | assumption | wp_step))
      refine codeAny_mono (codeAny_call_builtin (R := wants (fun r s₂ => r = .none ∧ ∃ g tk c, s₂ = { s with heap := g, toks := tk } ∧ c ≤ xs.length ∧ L2.SetR w g s.heap.objs.size (fun y => decide (y ∈ xs)) c ∧
          (∀ b o, b < s.heap.objs.size → s.heap.get? b = some o → g.get? b = some o)) E) PySem.F.called_set.init.plain PySem.F.entry_set_init (check_set_init_1 b2 ?_)) fun r₂ s₂ hr₂ => ?_
      · obtain ⟨ol, hol, hcl, nl, hdl⟩ := hl
        obtain ⟨ocls, odict, odata, oslots⟩ := ol
        simp only at hcl hdl
        subst hcl hdl
        have hol' : (s.heap.push so).get? l = some { cls := .type "tuple", dict := odict, data := .seq its nl, slots := oslots } := Heap.get?_push_of_some _ hol
        have c1 := PySem.F.sub_tuple_set
        have c2 := PySem.F.sub_tuple_frozenset
        have c3 : (Value.type "tuple" == Value.type "dict") = false := by decide
        have hl1 : (s.heap.push so).IsTuple l its := ⟨_, hol', rfl, nl, rfl⟩
        unfold Builtin.«set.__init__» noKeywords Builtin.Frozenset.updateFrom
        generalize hPI : pyIter = PI
        have ll : l < s.heap.objs.size := Heap.lt_size hol
        have nI : ∀ ob : Obj, l ≠ (s.heap.push ob).objs.size := fun ob => by
          rw [Heap.size_push]
          exact Nat.ne_of_lt (Nat.lt_succ_of_lt ll)
        have nS : ∀ ob : Obj, s.heap.objs.size ∉ [(s.heap.push ob).objs.size, l] := fun ob => by
          rw [Heap.size_push]
          simp only [List.mem_cons, List.mem_singleton, List.not_mem_nil, or_false, not_or]
          exact ⟨Nat.ne_of_lt (Nat.lt_succ_self _), Nat.ne_of_gt ll⟩
        have nB : ∀ (ob : Obj) (b : Addr), b < s.heap.objs.size → b ≠ (s.heap.push ob).objs.size := fun ob b lb => by
          rw [Heap.size_push]
          exact Nat.ne_of_lt (Nat.lt_succ_of_lt lb)
        subst hso
        wp_walk
        subst hPI
        refine wpAny_pyIter_tuple hl1 ?_
        refine wpAny_bind (wpAny_runValue ?_)
        have hh3 : A.in1.in1.in1.handled = none := by simp [hh]
        have sz : xs.length = its.size := by rw [← ints_len hi, Array.length_toList]
        have hval : ∀ (i : Nat) (v : Value), its[i]? = some v → ∃ x t, xs[i]? = some x ∧ v = .int x t := fun i v hv => ints_at hi i v (by rw [Array.getElem?_toList]; exact hv)
        refine fill ((Walks.tuple hh3 _ l (nI (so (!w.params.followText "set-order"))) its).toS) s.heap.objs.size (nS (so (!w.params.followText "set-order"))) xs sz (by rw [← sz]; exact hb) hval (its.size - 0) 0 _ (by omega) (Nat.zero_le _)
          ⟨⟨_, Heap.get?_push_size _ rfl, rfl, rfl⟩, (hl1.push _)⟩ ?hS0 ?hR
        case hS0 =>
          exact ⟨0, Nat.le_refl _, L2.SetR.congr (L2.SetR.at (L2.setR_fresh w) fun o e => Heap.get?_push_of_some _ e) (fun _ => by simp)⟩
        case hR =>
          intro s' c' hm hc' hS'
          obtain ⟨g, g', d', tk', os'⟩ := s'
          have eg : g' = s.gens := hm.gens
          have ed : d' = s.drawn := hm.drawn
          have eo : os' = s.os := hm.os
          subst eg ed eo
          show wpAny _ _ _ _ _ _
          refine wpAny_pure ?_
          show wpAny _ _ (ret Value.none) _ _ _
          rw [← sz, List.take_length] at hS'
          rw [← sz] at hc'
          refine wpAny_pure ⟨rfl, g, tk', c', rfl, hc', hS', fun b o lb e => ?_⟩
          have n1 : b ≠ s.heap.objs.size := Nat.ne_of_lt lb
          have n2 := nB (so (!w.params.followText "set-order")) b lb
          exact hm.heap b o (by simp only [List.mem_cons, List.mem_singleton, List.not_mem_nil, or_false, not_or]; exact ⟨n1, n2⟩) (Heap.get?_push_of_some _ (Heap.get?_push_of_some _ e))
      · cases r₂ with
        | error e => exact hr₂
        | ok fl₂ =>
          cases fl₂ with
          | ret r =>
            obtain ⟨rfl, g, tk, c', rfl, hc', hS', hk'⟩ := hr₂
            repeat (any_goals (first | assumption | wp_step))
            exact q _ _ _ hc' hS' hk'
          | _ => exact hr₂.elim
    | _ => exact hr.elim
end
end Si
namespace Si
open PySem PySem.Spec PyProof.Rows L2
section
variable {X : Cx}
theorem intsAre : ∀ {ns : List Int} {us : List Value}, Vals (ns.map V.int) us → IntsAre us ns
  | [], _, .nil => .nil
  | n :: ns, _, .cons r rt => by
    obtain ⟨t, rfl⟩ := r
    exact .cons n t (intsAre rt)
/-- set(xs), xs a list or a tuple of ints -/
def rSet (K : PySem.W.Frag) (w : World) : List V → Hp → VK → Prop := fun xs H Q => ∃ (p : Addr) (ns : List Int), xs = [.ref p] ∧ (SqL K H p (ns.map V.int) ∨ SqT K H p (ns.map V.int)) ∧ ns.length ≤ 4000 ∧
  ∀ S c, c ≤ ns.length → H S = none → Q (.ref S) (upd H S (SetO w S (fun y => decide (y ∈ ns)) c))
theorem call_set (hc : X.calm = true) : CallR X (.type "set") (rSet X.K X.w) := by
  intro pins s σ H xs us Q I r h
  obtain ⟨p, ns, rfl, hq, hl, k⟩ := h
  obtain ⟨u, rfl, ru⟩ := r.one
  cases (show u = Value.ref p from ru)
  rcases hq with hq | hq
  · obtain ⟨its, r, pl, hz⟩ := I.list hq
    refine set_ints (I.ok.hd hc) pl.isList (by simpa using intsAre r) (by unfold scanBound; omega) fun g tk c hcn hS hk => ?_
    exact ⟨.ref _, _, I.laid (t' := tk) (fun b u e => hk b u (Heap.lt_size e) e) (Nat.le_refl _) (setO_new hS), rfl, k _ c hcn (I.hok.fresh (Nat.le_refl _))⟩
  · obtain ⟨its, r, pl, hz⟩ := I.tuple hq
    refine set_intsT (I.ok.hd hc) pl (by simpa using intsAre r) (by unfold scanBound; omega) fun g tk c hcn hS hk => ?_
    exact ⟨.ref _, _, I.laid (t' := tk) (fun b u e => hk b u (Heap.lt_size e) e) (Nat.le_refl _) (setO_new hS), rfl, k _ c hcn (I.hok.fresh (Nat.le_refl _))⟩
end
end Si

/-! An own error with one field, BadNumber, as the guide's skeleton on own errors gives it. -/
namespace PySem
namespace LowX
open PySem.W PySem.Calls PyProof.Rows PySem.HandSPX
/-! ### the text of __init__ -/
def iA (p1 p2 : Pos) : Arguments := { posonlyargs := [], args := [{ arg := "self", annotation := none, pos := p1 }, { arg := "number", annotation := none, pos := p2 }], vararg := none, kwonlyargs := [], kw_defaults := [], kwarg := none, defaults := [] }
def iB (q1 q2 q3 q4 : Pos) : List Stmt := [.Assign [.Attribute (.Name "self" q1) "number" q2] (.Name "number" q3) q4]
def iS : Scope := { kind := .function, names := [(PySem.Str.ofString "self", .local), (PySem.Str.ofString "number", .local)], isGenerator := false, isCoroutine := false, more := [] }
/-- what the written part says of Low, at C, and of its __init__, at fI -/
structure LowTxt (K : Frag) (mg : Str → Option Value) (C fI : Addr) : Prop where
  gC : mg "BadNumber" = some (.ref C)
  cls : ∃ nm q N bs bm sn sub ab col dd k0 k1 k2 k3 k5, K.lookup C = some (excClassObj nm q C N bs bm true sn sub ab col dd k0 k1 k2 k3 k5 "ValueError.__new__") ∧ refsVE bm = true
  sa : findIn K (.ref C) "__setattr__" = some (some (.builtin "object.__setattr__"))
  ga : findIn K (.ref C) "__getattribute__" = some (some (.builtin "BaseException.__getattribute__"))
  gg : findIn K (.ref C) "__getattr__" = some none
  noN : findIn K (.ref C) "number" = some none
  iC : findIn K (.ref C) "__init__" = some (some (.ref fI))
  tC : typeIn K (.ref fI) = some (.type "function")
  kC : keepIn K (.ref C) = true
  exC : subIn K (.ref C) (.type "BaseException") = some true
  tyC : typeIn K (.ref C) = some (.type "type")
  hdC : hasDictIn K C = true
  te : exmOne K (.ref C) (.ref C) = some true
  fn : ∃ (oc : Value) (od : Option Addr) (doc pm : Value) (an : Option Addr) (cdv ct : Value) (osl : Array (Option Value)) (p1 p2 q1 q2 q3 q4 : Pos),
    K.lookup fI = some ⟨oc, od, .func (fnOf "__init__" "BadNumber.__init__" (iA p1 p2) (iB q1 q2 q3 q4) iS .none .none doc pm an cdv ct), osl⟩ ∧ codeIn K cdv "BadNumber.__init__" = true
theorem one_size (v : Value) : [v].length ≤ sizeLine := by
  rw [sizeLine_eq]
  exact (by decide : 1 ≤ 16777216)
theorem kept_but {K : Frag} {h h' : Heap} {x : Addr} (X : K.In h) (hx : K.lookup x = none) (k : ∀ b o, b ≠ x → h.get? b = some o → h'.get? b = some o) : K.In h' := fun a o e =>
  k a o (fun z => by rw [z, hx] at e; cases e) (X a o e)
theorem ldC {M : Model} {s : Shared} {name : Str} {scope : Scope} {L a : Addr} {cd : Value} {m : Str → Option Value} {x : Str} {pos : Pos} {v : Value} {Q : Value → Shared → Prop} {A : Around} {E : Value → Shared → Prop} (hn : s.heap.Ns L m) (hv : m x = some v) (h : Q v s)
    (hk : scope.kind = .function := by rfl) (hl : (envOfC name scope L a cd).kindOf x = some .local := by rfl) (hd : (x == ("__debug__" : Str)) = false := by decide) :
    wpAny M A (eval (.Name x pos) (envOfC name scope L a cd)) Q E s := wpAny_Name (wpAny_loadName_local hk hl hn hv h) hd
/-- what __init__ leaves of a fresh exception at x -/
structure InitEnd (h h' : Heap) (x C dx t1 : Addr) (v : Value) : Prop where
  keep : ∀ b o, b ≠ x → h.get? b = some o → h'.get? b = some o
  obj : h'.get? x = some { cls := .ref C, dict := some dx, data := .fields #[.ref t1, .none, .none, .none, .bool false, .none] }
  dbig : h.objs.size ≤ dx
  dne : dx ≠ x
  ns : h'.Ns1 dx (fun y => if y = "number" then some v else none)
/-- a made Low -/
structure OwnMade (h h' : Heap) (e C d : Addr) (v : Value) : Prop where
  keep : ∀ b o, h.get? b = some o → h'.get? b = some o
  new : h.objs.size ≤ e
  obj : ∃ oe vs, h'.get? e = some oe ∧ oe.cls = .ref C ∧ oe.dict = some d ∧ oe.data = .fields vs ∧ vs[1]? = some .none
  dbig : h.objs.size ≤ d
  dne : d ≠ e
  ns : h'.Ns1 d (fun y => if y = "number" then some v else none)
section
variable {prog : Program} {w : World} {A : Around} {E : Value → Shared → Prop} {R : Result → Shared → Prop} {s : Shared} {K : Frag} {mg : Str → Option Value} {C fI : Addr}
theorem low_init (T : LowTxt K mg C fI) {x t0 : Addr} {v : Value} (X : K.In s.heap) (hlim : s.heap.NoLimit) (hx : s.heap.get? x = some (excO C t0)) (hnx : K.lookup x = none) (hroom : A.depth < recursionLimit)
    (hq : ∀ h' tk dx, InitEnd s.heap h' x C dx t0 v → R (.ok (.ret .none)) { s with heap := h', toks := tk }) :
    codeAny (model prog w) A (.call (.ref fI) ⟨[.ref x, v], []⟩) R s := by
  obtain ⟨oc, od, doc, pm, an, cdv, ct, osl, p1, p2, q1, q2, q3, q4, ho, hcd⟩ := T.fn
  obtain ⟨nm, q, N, bs, bm, sn, sub, ab, col, dd, k0, k1, k2, k3, k5, hC, hbm⟩ := T.cls
  have hcl : clsIn K C = some { name := nm, bases := bs, mro := .ref C :: bm, ns := N, qualname := q, hasDict := true, slotNames := sn, subclasses := sub, abstract := ab, collection := col, hasDel := false } := by unfold clsIn; rw [hC] <;> rfl
  refine Att.call_fn (binds := [("self", .ref x), ("number", v)]) X hlim ho hcd hroom (BindsTo.of_eq (by first | rfl | with_unfolding_all rfl)) (by first | rfl | decide | with_unfolding_all rfl) (fun s₁ IC => ?_) rfl rfl rfl
  obtain ⟨h₁, tk₁, rfl⟩ := IC.toInCall.same
  have k : ∀ b o, s.heap.get? b = some o → h₁.get? b = some o := IC.toInCall.keep
  have hn := IC.toInCall.ns
  have hxL : s.heap.objs.size ≠ x := Nat.ne_of_gt (Heap.lt_size hx)
  have X₁ : K.In h₁ := X.keeps k
  have hx₁ := k _ _ hx
  -- self.by = by
  show wpAny _ _ (execs _ _) _ _ _
  refine wpAny_execs_cons (plainObj_wpAny_Assign_Attribute ?_)
  refine ldC (v := v) hn (by first | rfl | with_unfolding_all rfl | kernel_rfl) (ldC (v := .ref x) hn (by first | rfl | with_unfolding_all rfl | kernel_rfl) ?_)
  refine set_plain X₁ (ox := excO C t0) (od := none) ⟨hx₁, rfl, rfl, trivial⟩ T.sa ?_
  refine exc_osa X₁ hx₁ hcl (show refsVE (.ref C :: bm) = true from hbm) rfl T.noN (fun h₃ tk₃ dx k₃ dn dne hx₃ hn₃ => ?_)
  show wpAny _ _ (execs _ _) _ _ _
  have z : s.heap.objs.size < h₁.objs.size := hn.lt
  exact wpAny_execs_nil (hq h₃ tk₃ dx ⟨fun b o hb e => k₃ b o hb (k b o e), hx₃, Nat.le_of_lt (Nat.lt_of_lt_of_le z dn), dne, hn₃⟩)
theorem low_made (T : LowTxt K mg C fI) {v : Value} (X : K.In s.heap) (hlim : s.heap.NoLimit) (hroom : A.depth + 1 < recursionLimit)
    (hq : ∀ h' tk e d, OwnMade s.heap h' e C d v → R (.ok (.ret (.ref e))) { s with heap := h', toks := tk }) :
    codeAny (model prog w) A (.call (.ref C) ⟨[v], []⟩) R s := by
  obtain ⟨nm, q, N, bs, bm, sn, sub, ab, col, dd, k0, k1, k2, k3, k5, hC, hbm⟩ := T.cls
  obtain ⟨hp, g, dr, tk, os⟩ := s
  have k : ∀ b o, hp.get? b = some o → ((hp.push (kdv_tup [v])).push (excO C hp.objs.size)).get? b = some o := fun b o e => Heap.get?_push_of_some _ (Heap.get?_push_of_some _ e)
  have hget : ((hp.push (kdv_tup [v])).push (excO C hp.objs.size)).get? (hp.objs.size + 1) = some (excO C hp.objs.size) := by heap_get
  have hnx : K.lookup (hp.objs.size + 1) = none := by
    cases e : K.lookup (hp.objs.size + 1) with
    | none => rfl
    | some o =>
      have z : hp.get? (hp.objs.size + 1) = some o := X _ _ e
      exact absurd (Nat.lt_of_succ_lt (Heap.lt_size z)) (Nat.lt_irrefl _)
  refine call_own F.excBase_ValueError (fun X => refsVE_contains X bm hbm) (X _ _ hC) (looks_findIn X T.iC) (fun self => bind_fn X self T.tC) (one_size v) ?_
  refine low_init (s := ⟨(hp.push (kdv_tup [v])).push (excO C hp.objs.size), g, dr, tk, os⟩) T (X.keeps k) (hlim.keeps k) hget hnx ?_ fun h' tk' dx ⟨k', hx, dn, dne, hns⟩ => ?_
  · show A.depth + 1 < recursionLimit
    exact hroom
  · have old : ∀ b o, hp.get? b = some o → h'.get? b = some o := fun b o e => k' b o (Nat.ne_of_lt (Nat.lt_succ_of_lt (Heap.lt_size e))) (k b o e)
    have z : hp.objs.size + 1 + 1 ≤ dx := by
      first
        | (simpa only [Heap.size_push] using dn)
        | exact dn
        | (have q := dn; rw [Heap.size_push, Heap.size_push] at q; exact q)
    exact ⟨rfl, hq h' tk' (hp.objs.size + 1) dx ⟨old, Nat.le_succ _, ⟨_, _, hx, rfl, rfl, rfl, rfl⟩, Nat.le_trans (Nat.le_trans (Nat.le_succ _) (Nat.le_succ _)) z, dne, hns⟩⟩
end
end LowX
end PySem
namespace L2
open PySem PySem.Spec PyProof.Rows
theorem relO_low {v : V} {v' : Value} (r : RelV v v') (f : Str) : RelO (List.lookup f [(("number" : Str), v)]) (if f = "number" then some v' else none) := by
  by_cases hw : f = "number"
  · subst hw
    rw [if_pos rfl]
    have q : List.lookup ("number" : Str) [(("number" : Str), v)] = some v := by simp [List.lookup]
    rw [q]
    exact r
  · rw [if_neg hw]
    have qw : (f == ("number" : Str)) = false := by simpa using hw
    have q2 : List.lookup f [(("number" : Str), v)] = none := by simp [List.lookup, qw]
    rw [q2]
    trivial
section
variable {X : Cx} {C fI : Addr}
/-- Low(e) -/
def tMkLow (C : Addr) (ta : TA) : St → Hp → XK → Prop := fun σ H Q => ta σ H fun vs H1 => ∃ v, vs = [v] ∧ ∀ d, H1 d = none → Q (.ref C) (some d) (upd H1 d (.xd [(("number" : Str), v)]))
theorem pmk_low {a : Expr} {ta : TA} {p pos : Pos} {k : Nat} (T : PySem.LowX.LowTxt X.K X.mg C fI) (hr : Room k X.A) (ha : PA X [a] ta) (hg : Gl X "BadNumber" := by rfl)
    (he : starEach (a :: []) X.env = (false, eval a X.env) :: starEach [] X.env := by rfl) (hpl : (backTo pos (starEach [] X.env)).any (·.1) = false := by rfl) :
    PMk X (.Call (.Name "BadNumber" p) [a] [] pos) (tMkLow C ta) := by
  intro pins s σ H Q I h
  refine wpAny_Call_Name_kw (ld_glob I hg T.gC ?_)
  refine PySem.W.callWith_K (h₀ := X.base) I.ok.mod.kin T.kC (thn (ha.run pos pins s σ H _ I h) fun us s1 hh => ?_) he hpl
  obtain ⟨vs, H1, I1, r1, v, ev, q1⟩ := hh
  subst ev
  refine ⟨I1.kIn, ?_⟩
  cases r1 with
  | cons rv rn =>
    rename_i v' us'
    cases rn
    show wpAny _ _ (call (.ref C) [v']) _ _ _
    have hlim := I1.nolimit
    obtain ⟨hp, g, dr, tk, os⟩ := s1
    refine wpAny_call (PySem.LowX.low_made T I1.kIn hlim (by have := hr.dp; omega) fun h' tk' e d M => ?_)
    show MkP X pins σ Q (.ref e) ⟨h', g, dr, tk', os⟩
    obtain ⟨oe, fv, hoe, hc, hd, hdat, h1⟩ := M.obj
    have hns := M.ns
    obtain ⟨G', g1, g2⟩ := restrict h' fun b => decide (b ≠ e)
    have gk : ∀ b, b ≠ e → G'.get? b = h'.get? b := fun b hb => g1 b (decide_eq_true hb)
    have ge : G'.get? e = none := g2 e (by simp)
    have old : ∀ b o, hp.get? b = some o → G'.get? b = some o := fun b o q => (gk b (Nat.ne_of_lt (Nat.lt_of_lt_of_le (Heap.lt_size q) M.new))).trans (M.keep b o q)
    have ob : ObjOk X.prog X.w (upd H1 d (.xd [(("number" : Str), v)])) G' d (.xd [(("number" : Str), v)]) :=
      ⟨_, hns.at (fun o q => (gk d M.dne).trans q), fun f => relO_low rv f⟩
    have J : Inv X pins σ (upd H1 d (.xd [(("number" : Str), v)])) ⟨G', g, dr, tk', os⟩ := I1.laid (t' := tk') old M.dbig ob
    refine ⟨e, oe, fv, ⟨G', g, dr, tk', os⟩, _, .ref C, some d, rfl, J, fun b o q => ?_, ge, hoe, ⟨hc, hd⟩, hdat, h1, ?_, rfl, I1.bare, raises_own T.exC T.tyC, q1 d (I1.hok.fresh M.dbig)⟩
    · by_cases hb : b = e
      · have q' : G'.get? b = some o := q
        rw [hb, ge] at q'; cases q'
      · exact (gk b hb).symm.trans q
    · rw [upd_ne (Ne.symm M.dne)]
      exact I1.hok.fresh M.new
/-- raise Low(e) -/
def tRaiseLow (C : Addr) (W : WX) (ta : TA) : TS := fun _ σ H => tMkLow C ta σ H fun cls d H' => W cls d σ H'
theorem ps_raiseLow {a : Expr} {ta : TA} {W : WX} {p pos pos2 : Pos} {k : Nat} (hc : X.calm = true) (T : PySem.LowX.LowTxt X.K X.mg C fI) (hr : Room k X.A) (tk : Takes X W) (ha : PA X [a] ta) (hg : Gl X "BadNumber" := by rfl)
    (he : starEach (a :: []) X.env = (false, eval a X.env) :: starEach [] X.env := by rfl) (hpl : (backTo pos (starEach [] X.env)).any (·.1) = false := by rfl) :
    PS X (.Raise (some (.Call (.Name "BadNumber" p) [a] [] pos)) none pos2) (tRaiseLow C W ta) := ps_raise hc tk (pmk_low T hr ha hg he hpl)
/-- low.by, low the exception that the suite holds (at a; its class cls, its dict d) -/
def tByLow (C : Addr) (a : Addr) (cls : Value) (d : Option Addr) (te : TE) : TE := fun σ H Q => te σ H fun x H1 => x = .ref a ∧ cls = .ref C ∧ ∃ (dd : Addr) (v : V), d = some dd ∧ H1 dd = some (.xd [(("number" : Str), v)]) ∧ Q v H1
theorem pe_byLow {a : Addr} {oe : Obj} {cls : Value} {d : Option Addr} {pn : List (Addr × Obj)} {e : Expr} {te : TE} {pos : Pos} (T : PySem.LowX.LowTxt X.K X.mg C fI) (hz : Zc cls d oe) (hf : ∃ vs, oe.data = .fields vs) (he : PE (X.suite a ((a, oe) :: pn)) e te)
    (hb : attributeBase e "number" X.env (eval e X.env) = eval e X.env := by rfl) :
    PE (X.suite a ((a, oe) :: pn)) (.Attribute e "number" pos) (tByLow C a cls d te) := by
  refine ⟨fun pins s σ H Q I h => ?_⟩
  refine attr_of hb (thn (he.run pins s σ H _ I h) fun u s1 hh => ?_)
  obtain ⟨x, H1, I1, rx, ex, ec, dd, v, ed, ea, q⟩ := hh
  subst ex
  obtain rfl : u = Value.ref a := rx
  subst ec
  subst ed
  obtain ⟨ha, _⟩ := I1.pin (a, oe) (List.mem_append_left _ List.mem_cons_self)
  obtain ⟨vs, hd⟩ := hf
  have hx : ObjOk X.prog X.w H1 s1.heap dd (.xd [(("number" : Str), v)]) := I1.hok dd _ ea
  obtain ⟨mA, hns, hr⟩ := hx
  obtain ⟨od, ho, hl⟩ := lookIn_ns hns
  have l : List.lookup ("number" : Str) [(("number" : Str), v)] = some v := by simp [List.lookup]
  obtain ⟨u, hu, ru⟩ := RelO.some_of (v := v) (o := mA "number") (by rw [← l]; exact hr "number")
  have J : PySem.W.InstAt s1.heap a oe C (some od) := ⟨ha, hz.1, by unfold PySem.W.notCls; rw [hd] <;> rfl, by rw [hz.2]; exact ho⟩
  exact HandSPX.exc_get I1.kIn J T.ga T.gg T.exC (PySem.W.findObj_own T.hdC T.noN rfl (by rw [hl, hu])) (handed_of ru) ⟨v, H1, I1.tok _, ru, q⟩
end
end L2


/-! iter(tuple) as a value; list(x), x with an __iter__ that gives such a one, and an own __len__. -/
namespace Li
open PySem PySem.Spec PyProof.Rows L2
/-- an iterator of the tuple t, not begun -/
def TiO (t it : Addr) : HO := .ext fun h => h.IsTupleIter it t 0
theorem ti_at {h h' : Heap} {t it : Addr} {i : Nat} (x : h.IsTupleIter it t i) (k : ∀ o, h.get? it = some o → h'.get? it = some o) : h'.IsTupleIter it t i := by
  obtain ⟨o, e, r⟩ := x
  exact ⟨o, k o e, r⟩
theorem ti_ok {P : Program} {w : World} {H : Hp} {h : Heap} {t it : Addr} (x : h.IsTupleIter it t 0) : ObjOk P w H h it (TiO t it) :=
  ⟨x, by obtain ⟨o, e, _⟩ := x; exact ⟨o, e⟩, fun _ _ p k => ti_at p k⟩
/-- iter(t): the iterator is younger than all that is tracked -/
def rIterT (K : PySem.W.Frag) : List V → Hp → VK → Prop := fun xs H Q => ∃ (t : Addr) (zs : List V), xs = [.ref t] ∧ SqT K H t zs ∧ ∀ it, H it = none → (∀ b o, H b = some o → b < it) → Q (.ref it) (upd H it (TiO t it))
section
variable {X : Cx}
theorem call_iterT : CallR X (.builtin "iter") (rIterT X.K) := by
  intro pins s σ H xs us Q I r h
  obtain ⟨t, zs, rfl, hq, q⟩ := h
  obtain ⟨u, rfl, ru⟩ := r.one
  cases (show u = Value.ref t from ru)
  obtain ⟨its, rv, pl, hz⟩ := I.tuple hq
  refine Calls.call_function_entry (by decide +kernel) (by decide +kernel) PySem.W.kdk_entry_iter (PySem.W.kdk_args_iter _) ?_
  unfold Builtin.«iter»
  refine wpAny_bind (m := someArgs "iter" 1 2 _) (wpAny_of_eq (a := [Value.ref t]) (by first | rfl | kernel_rfl!) ?_)
  show wpAny _ _ (pyIter (.ref t) >>= _) _ _ _
  refine wpAny_bind (wpAny_pyIter_tuple (items := its.toArray) pl (wpAny_pure ⟨_, rfl, ?_⟩))
  refine ⟨.ref s.heap.objs.size, _, I.laid (t' := s.toks) (fun b u e => Heap.get?_push_of_some _ e) (Nat.le_refl _) (ti_ok ⟨_, Heap.get?_push_size _ rfl, rfl, rfl⟩), rfl, q _ (I.hok.fresh (Nat.le_refl _)) fun b o e => ?_⟩
  exact (I.hok b o e).lt
end
section
variable {X : Cx} {pins : List (Addr × Obj)} {σ : L2.St} {q it t : Addr} {zs : List V} {A1 : Around} {Rs : Result → Shared → Prop}
/-- the list at q takes what the iterator gives -/
theorem fill (hh : A1.in1.handled = none) (few : zs.length ≤ 1000) : ∀ (k i : Nat) (H : Hp) (s : Shared), zs.length - i = k → i ≤ zs.length → Inv X pins σ H s → H q = some (.lst (zs.take i)) → FpOk X pins H it → s.heap.IsTupleIter it t i → SqT X.K H t zs →
    (∀ s', Inv X pins σ (upd H q (.lst zs)) s' → Rs (.ok (.ret .none)) s') → codeAny (model X.prog X.w) A1 (.builtin "list.extend.loop" ⟨[.ref q, .ref it, .none], []⟩) Rs s := by
  intro k
  have sz := sizeLine_eq
  induction k with
  | zero =>
    intro i H s hk hi I hq fp st ht hd
    have e : i = zs.length := by omega
    subst e
    obtain ⟨its, rv, pl, hz⟩ := I.tuple ht
    have li := rv.length
    obtain ⟨f0, f1, f2, f3, f4, f5⟩ := fp
    refine codeAny_builtin PySem.F.entry_extend_loop ?_
    rw [Around.under_plainId PySem.F.plain_extend_loop _]
    show wpAny _ A1.in1 (pyNext (.ref it) >>= _) _ _ s
    refine wpAny_bind (wpAny_pyNext_tuple_end hh st (items := its.toArray) pl (by rw [List.getElem?_toArray, List.getElem?_eq_none (by omega)]) fun h' ex => ?_)
    have I1 := I.turned (t' := s.toks) (h' := h') (fun b o nb e => ex b o nb e) f0 f1 f3 f4 f5
    rw [List.take_length] at hq
    have e : upd H q (.lst zs) = H := by
      funext b
      by_cases c : b = q
      · rw [c, upd_same, hq]
      · rw [upd_ne c]
    exact wpAny_pure (hd _ (by rw [e]; exact I1))
  | succ k ih =>
    intro i H s hk hi I hq fp st ht hd
    have lt : i < zs.length := by omega
    obtain ⟨its, rv, pl, hz⟩ := I.tuple ht
    obtain ⟨u, hu, ru⟩ := rv.get (List.getElem?_eq_getElem lt)
    obtain ⟨f0, f1, f2, f3, f4, f5⟩ := id fp
    refine codeAny_builtin PySem.F.entry_extend_loop ?_
    rw [Around.under_plainId PySem.F.plain_extend_loop _]
    show wpAny _ A1.in1 (pyNext (.ref it) >>= _) _ _ s
    refine wpAny_bind (wpAny_pyNext_tuple_item st (items := its.toArray) pl (x := u) (by simpa using hu) fun h' st' sb => ?_)
    have I1 := I.turned (t' := s.toks) (h' := h') (fun b o nb e => (sb.2 b nb).trans e) f0 f1 f3 f4 f5
    obtain ⟨z, ls, kk, r2, hl, e⟩ := I1.lstM hq
    have ll := r2.length
    rw [List.length_take] at ll
    show wpAny _ A1.in1 (updateSeq q (·.push u) >>= _) _ _ _
    have nq : it ≠ q := fun c => by rw [← c, f0] at hq; cases hq
    refine wpAny_bind (wpAny_updateSeq e rfl (wpAny_pure ⟨plainId_quiet PySem.F.plain_extend_loop _, ?_⟩) (by rw [List.size_toArray]; omega) (by show (ls.toArray.push u).size ≤ sizeLine + 1; rw [Array.size_push, List.size_toArray]; omega))
    have I2 := I1.lset (f := (·.push u)) (its' := ls ++ [u]) (t' := s.toks) hq e (by simp) (r2.append (.cons ru .nil)) (by rw [List.length_append, List.length_singleton, List.length_take]; omega)
    have tk : zs.take i ++ [zs[i]] = zs.take (i + 1) := by rw [List.take_add_one, List.getElem?_eq_getElem lt]; rfl
    rw [tk] at I2
    refine ih (i + 1) _ _ (by omega) lt I2 upd_same ⟨by rw [upd_ne nq]; exact f0, f1, f2, f3, f4, f5⟩ (ti_at st' fun o e => ?_) ?_ fun s' I' => hd s' (by rw [upd_upd] at I'; exact I')
    · exact (Heap.get?_update_other _ _ (Ne.symm nq)).trans e
    · rcases ht with (w1 | ⟨o, w2⟩) | w3
      · refine .inl (.inl ?_)
        rw [upd_ne fun c => by rw [c, hq] at w1; cases w1]
        exact w1
      · refine .inl (.inr ⟨o, ?_⟩)
        rw [upd_ne fun c => by rw [c, hq] at w2; cases w2]
        exact w2
      · exact .inr w3
end
end Li
namespace Li
open PySem PySem.Spec PyProof.Rows L2 ItX
section
variable {X : Cx} {C fi fl : Addr} {spI spL : Sp} {EI EL : XK} {n : Nat}
/-- a def that never raises, called anywhere within -/
theorem sure_at {A : Around} {Q : VK} {E : XK} {g : Addr} {sp : Sp} {us : List Value} {ws : List V} {pins : List (Addr × Obj)} {σ : L2.St} {H : Hp} {s : Shared} (F : FnR X.prog X.w X.K X.mg X.base CX0 n g sp) (hr : Room n A) (e0 : Env0 X.prog X.w X.K X.mg X.base A X.stack s H) (I : Inv X pins σ H s)
    (r : Vals ws us) (h : sp ws H Q E) : codeAny (model X.prog X.w) A (.call (.ref g) ⟨us, []⟩) (fun r s' => match r with | .ok (.ret v) => EP X pins σ Q v s' | .ok _ => False | .error _ => False) s := by
  refine codeAny_mono (F A X.stack s H us ws Q E hr e0 r h) fun r s' z => ?_
  match r, z with
  | .ok (.ret _), z => exact I.after z
  | .ok .next, z => exact z.elim
  | .ok .brk, z => exact z.elim
  | .ok .cont, z => exact z.elim
  | .error _, z => exact z.elim
/-- list(x): its __iter__ gives an iterator of a tuple, its __len__ a number -/
def rListIt (K : PySem.W.Frag) (C : Addr) (spI spL : Sp) (EI EL : XK) : List V → Hp → VK → Prop := fun xs H Q => ∃ a dx fs, xs = [.ref a] ∧ H a = some (.ins C dx fs) ∧ ∀ q, H q = none → spI [.ref a] (upd H q (.lst []))
  (fun v H1 => ∃ it t zs, v = .ref it ∧ H1 it = some (TiO t it) ∧ q < it ∧ SqT K H1 t zs ∧ zs.length ≤ 1000 ∧ H1 q = some (.lst []) ∧ H1 a = some (.ins C dx fs) ∧
    spL [.ref a] H1 (fun z H2 => ∃ i : Int, z = .int i ∧ 0 ≤ i ∧ i < 1000 ∧ H2 = H1 ∧ Q (.ref q) (upd (dropH H1 it) q (.lst zs))) EL) EI
theorem call_listIt (hs : PySem.W.findIn X.K (.ref C) "__iter__" = some (some (.ref fi))) (hf : PySem.W.isFn X.K (.ref fi) = true) (hl : PySem.W.findIn X.K (.ref C) "__len__" = some (some (.ref fl))) (hlf : PySem.W.isFn X.K (.ref fl) = true)
    (FI : FnR X.prog X.w X.K X.mg X.base CX0 n fi spI) (FL : FnR X.prog X.w X.K X.mg X.base CX0 n fl spL) (hc : X.calm = true) (hr : Room (n + 4) X.A) : CallR X (.type "list") (rListIt X.K C spI spL EI EL) := by
  intro pins s σ H xs us Q I rv h
  obtain ⟨a, dx, fs, rfl, ha, hq⟩ := h
  obtain ⟨u, rfl, ru⟩ := rv.one
  cases (show u = Value.ref a from ru)
  have sb : Sub X (n + 1) X.A.in1.in1.in1 := Sub.in1 (Sub.in1 (Sub.in1 ⟨hr, rfl⟩))
  refine callType_codes (Q₁ := fun obj s₁ => obj = .ref s.heap.objs.size ∧ s₁ = { s with heap := s.heap.push { cls := .type "list", data := .seq #[] } })
    PySem.F.called_list (PySem.F.typeCall_list_1 _) PySem.F.entry_list_init (code_list_new _ ⟨rfl, rfl⟩) fun obj s₁ h₁ => ?_
  obtain ⟨rfl, rfl⟩ := h₁
  have hS : (s.heap.push { cls := .type "list", data := .seq #[] }).get? s.heap.objs.size = some { cls := .type "list", data := .seq #[] } := Heap.get?_push_size _ rfl
  refine ⟨⟨_, hS, rfl⟩, PySem.F.args_list_init_2 _ _, ?_⟩
  have fr : H s.heap.objs.size = none := I.hok.fresh (Nat.le_refl _)
  have hsp := hq _ fr
  have young : X.s_0.heap.objs.size ≤ s.heap.objs.size := I.sz
  have I1 : Inv X pins σ (upd H s.heap.objs.size (.lst [])) { s with heap := s.heap.push { cls := .type "list", data := .seq #[] } } := I.lnew (its := []) (t' := s.toks) .nil (Nat.zero_le _)
  show wpAny _ _ (Builtin.List.listItems (.ref s.heap.objs.size) >>= fun old => Builtin.List.listUpdate (.ref s.heap.objs.size) (fun _ => #[]) >>= fun _ => letGo old.toList.reverse >>= fun _ => Builtin.List.listExtendWith (.ref s.heap.objs.size) (.ref a) .none) _ _ _
  refine wpAny_bind ?_
  unfold Builtin.List.listItems
  refine wpAny_bind (wpAny_seqItems hS rfl (wpAny_pure ?_))
  show wpAny _ _ (updateSeq s.heap.objs.size (fun _ => #[]) >>= fun _ => letGo (#[] : Array Value).toList.reverse >>= fun _ => Builtin.List.listExtendWith (.ref s.heap.objs.size) (.ref a) .none) _ _ _
  refine wpAny_bind (wpAny_updateSeq hS rfl ?_)
  have I2 := I1.lset (f := fun _ => #[]) (its := []) (its' := []) (ys := []) (t' := s.toks) upd_same hS rfl .nil (Nat.zero_le _)
  rw [upd_upd] at I2
  refine wpAny_bind (wpAny_letGo ?_)
  have ha2 : upd H s.heap.objs.size (.lst []) a = some (.ins C dx fs) := by rw [upd_ne (ne_of_none ha fr)]; exact ha
  have nqa : s.heap.objs.size ≠ a := (ne_of_none ha fr).symm
  have low : s.heap.objs.size < ({ s with heap := (s.heap.push { cls := .type "list", data := .seq #[] }).update s.heap.objs.size (Obj.mapSeq fun _ => #[]) } : Shared).heap.objs.size := (I2.hok _ _ upd_same).lt
  generalize hq0 : s.heap.objs.size = q at *
  generalize ({ s with heap := (s.heap.push { cls := .type "list", data := .seq #[] }).update q (Obj.mapSeq fun _ => #[]) } : Shared) = s1 at *
  generalize hH1 : upd H q (.lst []) = H1 at *
  have hq1 : H1 q = some (.lst []) := by rw [← hH1]; exact upd_same
  obtain ⟨ox, od, J⟩ := Ow.ins_at I2 ha2
  obtain ⟨m0, hF⟩ := I2.fr
  unfold Builtin.List.listExtendWith
  refine wpAny_bind (J.type.here ?_)
  have b1 : Builtin.List.listSameRef (.ref q) (.ref a) = false := by simp [Builtin.List.listSameRef, nqa]
  have b2 : (Value.ref C == Value.type "list") = false ∧ (Value.ref C == Value.type "tuple") = false := ⟨rfl, rfl⟩
  simp only [b1, b2.1, b2.2, Bool.or_false, Bool.false_eq_true, if_false]
  refine wpAny_bind (PySem.W.owit_iter hF I2.ok.mod.kin J hs hf ?_)
  have env : ∀ {s2 : Shared} {H2 : Hp}, Inv X pins σ H2 s2 → Env0 X.prog X.w X.K X.mg X.base X.A.in1.in1 X.stack s2 H2 := fun I => by
    have e := I.env0
    exact ⟨e.frames, e.mod, e.bs, e.bsz, e.funs, e.frf, e.hok, e.bare⟩
  have room0 : Room (n + 1) X.A.in1.in1 := (hr.in1.in1).mono (by omega)
  have room1 : Room n X.A.in1.in1 := room0.mono (by omega)
  refine wpAny_mono (wpAny_call (sure_at (us := [.ref a]) (ws := [.ref a]) FI room1 (env I2) I2 (.cons rfl .nil) hsp)) (fun v s3 hv => ?_) fun _ _ x => x.elim
  obtain ⟨v', H3, I3, rv3, it, t, zs, rfl, hit, qlt, ht, few, hq3, ha3, hsp2⟩ := hv
  cases (show v = Value.ref it from rv3)
  have st3 : s3.heap.IsTupleIter it t 0 := (I3.hok it _ hit).1
  unfold PySem.W.OwitIt
  refine wpAny_specialOf (name := Str.ofString "__next__") st3.typeIs PySem.F.slot_tuple_iterator_next.lookup ?_
  refine wpAny_bind (wpAny_holding ?_)
  unfold Builtin.List.listLengthHint
  obtain ⟨ox3, od3, J3⟩ := Ow.ins_at I3 ha3
  obtain ⟨m3, hF3⟩ := I3.fr
  refine wpAny_bind (wpAny_bind (J3.type.here ((PySem.W.looks_findIn I3.kIn hl).here ?_)))
  refine PySem.W.KFB.if_not rfl ?_
  refine wp_if_pos rfl (wpAny_bind (wpAny_rule (wpAny_bind (wpAny_attempt ?_))))
  refine PySem.W.len_K hF3 I3.ok.mod.kin J3 hl hlf (wpAny_mono (wpAny_call (sure_at (us := [.ref a]) (ws := [.ref a]) FL (room0.in1) (env I3).in1 I3 (.cons rfl .nil) hsp2)) (fun w s4 z => ?_) fun _ _ x => x.elim)
  obtain ⟨z', H4, I4, rz, i, rfl, h0, h1, rfl, qz⟩ := z
  obtain ⟨tk, e⟩ := (show ∃ tk, w = Value.int i tk from rz)
  cases e
  refine ⟨⟨h0, by omega⟩, ?_⟩
  dsimp only
  refine wpAny_bind (wpAny_of_eq (a := some i) rfl ?_)
  have sl := sizeLine_eq
  refine wp_if_neg (by unfold Builtin.List.listTooLong; rw [decide_eq_true_eq]; omega) (wpAny_pure ?_)
  have I5 := inv_drop (I4.tok (s4.toks + 1)) hit
  have fp : FpOk X pins (dropH H4 it) it := inv_fp I4 hit (Nat.le_trans young (Nat.le_of_lt qlt))
  have nqi : q ≠ it := Nat.ne_of_lt qlt
  have hq5 : dropH H4 it q = some (.lst []) := (dropH_ne nqi).trans hq3
  have ht5 : SqT X.K (dropH H4 it) t zs := by
    rcases ht with (w1 | ⟨o, w2⟩) | w3
    · refine .inl (.inl ((dropH_ne fun c => ?_).trans w1))
      rw [c, hit] at w1
      cases w1
    · refine .inl (.inr ⟨o, (dropH_ne fun c => ?_).trans w2⟩)
      rw [c, hit] at w2
      cases w2
    · exact .inr w3
  have st5 : s4.heap.IsTupleIter it t 0 := (I4.hok it _ hit).1
  have hh : X.A.in1.in1.handled = none := by simp [I.ok.hd hc]
  have go : ∀ s6 : Shared, Inv X pins σ (dropH H4 it) s6 → s6.heap.IsTupleIter it t 0 → codeAny (model X.prog X.w) X.A.in1 (.builtin "list.extend.loop" ⟨[.ref q, .ref it, .none], []⟩) (wants (fun r s₂ => r = .none ∧ EP X pins σ Q (.ref q) s₂) X.xe) s6 := fun s6 I6 st6 =>
    fill (zs := zs) hh few (zs.length - 0) 0 _ s6 rfl (Nat.zero_le _) I6 hq5 fp st6 ht5 fun s7 I7 => ⟨rfl, ⟨.ref q, _, I7, rfl, qz⟩⟩
  refine wpAny_ite_split (fun _ => ?_) fun _ => wpAny_pure ⟨plainId_quiet PySem.F.plain_extend_loop _, go _ I5 st5⟩
  refine wpAny_bind (wpAny_rule (wpAny_bind ?_))
  obtain ⟨z5, its5, k5, r5, l5, e5⟩ := I5.lstM hq5
  cases r5
  show wpAny _ _ (updateSeq q (·.push Value.none) >>= fun _ => updateSeq q (·.pop)) _ _ _
  refine wpAny_bind (wpAny_updateSeq e5 rfl ?_)
  have I6 := I5.lset (f := (·.push Value.none)) (its' := [Value.none]) (ys := [.non]) (t' := s4.toks + 1) hq5 e5 (by simp) (.cons rfl .nil) (by rw [List.length_singleton, sl]; decide)
  obtain ⟨z6, its6, k6, r6, l6, e6⟩ := I6.lstM upd_same
  obtain ⟨u6, rfl, ru6⟩ := r6.one
  refine wpAny_updateSeq e6 rfl ?_ (by show 1 ≤ sizeLine; rw [sl]; decide) (by show 0 ≤ sizeLine + 1; exact Nat.zero_le _)
  have I7 := I6.lset (f := (·.pop)) (its := [u6]) (its' := []) (ys := []) (t' := s4.toks + 1) upd_same e6 (by rfl) .nil (Nat.zero_le _)
  rw [upd_upd, show upd (dropH H4 it) q (.lst []) = dropH H4 it from funext fun b => by
    by_cases c : b = q
    · rw [c, upd_same, hq5]
    · rw [upd_ne c]] at I7
  refine wpAny_pure ⟨plainId_quiet PySem.F.plain_extend_loop _, go _ I7 (ti_at st5 fun o e => ?_)⟩
  exact (Heap.get?_update_other _ _ nqi).trans ((Heap.get?_update_other _ _ nqi).trans e)
end
end Li
/-! for .. in x, x an instance whose __iter__ gives iter(tuple). -/
namespace Li
open PySem PySem.Spec PyProof.Rows L2 ItX
section
variable {X : Cx} {C fi : Addr} {spI : Nat → Sp} {EI : XK} {n : Nat} {tg : Expr}
/-- a def whose promise knows how many objects there are when it is called -/
def FnA (P : Program) (w : World) (K : PySem.W.Frag) (mg : Str → Option Value) (base : Heap) (n : Nat) (g : Addr) (sp : Nat → Sp) : Prop :=
  ∀ (A : Around) (outer : List Env) (s : Shared) (H : Hp) (us : List Value) (vs : List V) (Q : VK) (E : XK), Room n A → Env0 P w K mg base A outer s H → Vals vs us → sp s.heap.objs.size vs H Q E →
    codeAny (model P w) A (.call (.ref g) ⟨us, []⟩) (CR CX0 outer P w H s Q E) s
theorem fnA_of {P : Program} {w : World} {K : PySem.W.Frag} {mg : Str → Option Value} {base : Heap} {x qual : Str} {st : Stmt} {g : Addr} {fd : FuncData} {N ps : List Str} {k : Nat} {sp : Nat → Sp} (F : Fun K x qual st g fd) (S : FnScope N ps (defScope st)) (B : Binds K fd ps [])
    (len : ∀ n vs H Q E, sp n vs H Q E → vs.length = ps.length)
    (body : ∀ (cdv : Value) (A : Around) (outer : List Env) (s : Shared) (H : Hp) (vs : List V) (Q : VK) (E : XK), Room k (A.deeper (envOfC qual (defScope st) s.heap.objs.size g cdv)) → sp s.heap.objs.size vs H Q E →
      ∃ t, PSs (cxOf CX0 P w K mg base N qual (defScope st) g cdv A outer s H E) (defBody st) t ∧ t { nx := fun _ H' => Q .non H', rt := Q } (start N vs) H) : FnA P w K mg base (k + 1) g sp := by
  obtain ⟨oc, od, kV, doc, pm, an, cdv, ct, osl, rfl, lk, hcd⟩ := F.ex
  intro A outer s H us vs Q E hr e0 r hsp
  have hl := len _ _ _ _ _ hsp
  have KX : K.In s.heap := e0.mod.kin.keeps fun b o e => (e0.bs b o e).1
  have bd := B s us KX (by rw [List.append_nil, ← r.length]; exact hl)
  rw [List.append_nil] at bd
  refine codeAny_call_function hr.depth (KX _ _ lk) rfl S.co S.gen rfl (PySem.W.codeRec_of KX hcd) (bd _ _ _ _ ?_)
  refine wpAny_newFunctionEnv_cells S.kind (fun y hy => ?_) fun env he s1 fresh => ?_
  · rcases S.par y.1 (List.of_mem_zip (show (y.1, y.2) ∈ ps.zip us from hy)).1 with q | q
    · exact .inl q
    · exact .inr ⟨q, PySem.W.cellsFrom_some _ _ _ (.inl q)⟩
  subst he
  refine ⟨(e0.mod.nolimit.keeps fun b o e => (e0.bs b o e).1).keeps fresh.toInCall.keep, codeAny_func ?_⟩
  obtain ⟨t, ht, hq⟩ := body _ A outer s H vs Q E (hr.deeper _) hsp
  refine wpAny_mono (ht.run [] s1 (start N vs) H _ (inv_start S hr.hd e0 hl r fresh) hq) (fun fl s' hs => ?_) fun e s' hs => hs
  match fl, hs with
  | .ret _, ⟨v, _, H', J, rv, q⟩ => exact ⟨v, H', J.os, J.bare, J.base, J.hok, rv, q⟩
  | .next, ⟨_, H', J, q⟩ => exact ⟨V.non, H', J.os, J.bare, J.base, J.hok, rfl, q⟩
  | .brk, ⟨_, _, _, q⟩ => exact q.elim
  | .cont, ⟨_, _, _, q⟩ => exact q.elim
/-- iter(t), n: how many objects there were -/
def rIterN (K : PySem.W.Frag) (n : Nat) : List V → Hp → VK → Prop := fun xs H Q => ∃ (t : Addr) (zs : List V), xs = [.ref t] ∧ SqT K H t zs ∧ ∀ it, H it = none → n ≤ it → Q (.ref it) (upd H it (TiO t it))
theorem call_iterN {X : Cx} : CallR X (.builtin "iter") (rIterN X.K X.s_0.heap.objs.size) := by
  intro pins s σ H xs us Q I r h
  obtain ⟨t, zs, rfl, hq, q⟩ := h
  obtain ⟨u, rfl, ru⟩ := r.one
  cases (show u = Value.ref t from ru)
  obtain ⟨its, rv, pl, hz⟩ := I.tuple hq
  refine Calls.call_function_entry (by decide +kernel) (by decide +kernel) PySem.W.kdk_entry_iter (PySem.W.kdk_args_iter _) ?_
  unfold Builtin.«iter»
  refine wpAny_bind (m := someArgs "iter" 1 2 _) (wpAny_of_eq (a := [Value.ref t]) (by first | rfl | kernel_rfl!) ?_)
  show wpAny _ _ (pyIter (.ref t) >>= _) _ _ _
  refine wpAny_bind (wpAny_pyIter_tuple (items := its.toArray) pl (wpAny_pure ⟨_, rfl, ?_⟩))
  exact ⟨.ref s.heap.objs.size, _, I.laid (t' := s.toks) (fun b u e => Heap.get?_push_of_some _ e) (Nat.le_refl _) (ti_ok ⟨_, Heap.get?_push_size _ rfl, rfl, rfl⟩), rfl, q _ (I.hok.fresh (Nat.le_refl _)) I.sz⟩
/-- such a def, called -/
theorem sure_A {X : Cx} {n : Nat} {A : Around} {Q : VK} {E : XK} {g : Addr} {sp : Nat → Sp} {us : List Value} {ws : List V} {pins : List (Addr × Obj)} {σ : L2.St} {H : Hp} {s : Shared} (F : FnA X.prog X.w X.K X.mg X.base n g sp) (hr : Room n A) (e0 : Env0 X.prog X.w X.K X.mg X.base A X.stack s H) (I : Inv X pins σ H s)
    (r : Vals ws us) (h : sp s.heap.objs.size ws H Q E) : codeAny (model X.prog X.w) A (.call (.ref g) ⟨us, []⟩) (fun r s' => match r with | .ok (.ret v) => EP X pins σ Q v s' | .ok _ => False | .error _ => False) s := by
  refine codeAny_mono (F A X.stack s H us ws Q E hr e0 r h) fun r s' z => ?_
  match r, z with
  | .ok (.ret _), z => exact I.after z
  | .ok .next, z => exact z.elim
  | .ok .brk, z => exact z.elim
  | .ok .cont, z => exact z.elim
  | .error _, z => exact z.elim
def iOwnT (K : PySem.W.Frag) (C : Addr) (spI : Nat → Sp) (EI : XK) (tl : TE) : TI := fun σ H R => tl σ H fun x H1 => ∃ a dx fs, x = .ref a ∧ H1 a = some (.ins C dx fs) ∧
  ∀ m, spI m [.ref a] H1 (fun v H2 => ∃ it t zs, v = .ref it ∧ m ≤ it ∧ H2 it = some (TiO t it) ∧ SqT K H2 t zs ∧ R (Itt K t) (dropH H2 it)) EI
theorem pi_ownT (hs : PySem.W.findIn X.K (.ref C) "__iter__" = some (some (.ref fi))) (hf : PySem.W.isFn X.K (.ref fi) = true) (FI : FnA X.prog X.w X.K X.mg X.base n fi spI) (hr : Room n X.A) {l : Expr} {tl : TE} (hl : PE X l tl) : PI X tg l (iOwnT X.K C spI EI tl) := by
  refine ⟨fun pins s σ H R I h => ?_⟩
  refine thn (hl.run pins s σ H _ I h) fun v s1 ⟨x, H1, I1, r1, q1⟩ => ?_
  obtain ⟨a, dx, fs, e, ha, hsp⟩ := q1
  subst e
  cases r1
  obtain ⟨ox, od, J⟩ := Ow.ins_at I1 ha
  obtain ⟨m0, hF⟩ := I1.fr
  refine PySem.W.owit_iter hF I1.ok.mod.kin J hs hf ?_
  refine wpAny_mono (wpAny_call (sure_A (us := [.ref a]) (ws := [.ref a]) FI hr I1.env0 I1 (.cons rfl .nil) (hsp _))) (fun v s3 hv => ?_) fun _ _ x => x.elim
  obtain ⟨v', H3, I3, rv3, it, t, zs, rfl, yg, hit, ht, q⟩ := hv
  cases (show v = Value.ref it from rv3)
  have st3 : s3.heap.IsTupleIter it t 0 := (I3.hok it _ hit).1
  unfold PySem.W.OwitIt
  refine wpAny_specialOf (name := Str.ofString "__next__") st3.typeIs PySem.F.slot_tuple_iterator_next.lookup ?_
  refine ⟨it, [it], _, _, dropH H3 it, rfl, inv_drop I3 hit, turn_tuple t it, st3, fun b hb => ?_, q⟩
  have e : b = it := by simpa using hb
  rw [e]
  exact inv_fp I3 hit (Nat.le_trans I1.sz yg)
variable {CX : CXT} {k : Nat} {f : Addr} {fd : FuncData} {ps : List Str} {sp : Sp} {e : Expr} {es : List Expr} {t : TA} {x : Str} {p pos : Pos} {ds : List Value} {dvs : List V}
/-- pe_callS of a def with defaults -/
theorem pe_callSD {E : L2.St → XK} (F : FnOk X.prog X.w X.K X.mg X.base CX k f fd ps sp) (hr : Room k X.A) (hg : Gl X x) (hm : X.mg x = some (.ref f)) (hk : PySem.W.keepIn X.K (.ref f) = true) (hb : Binds X.K fd ps ds) (hd : Vals dvs ds) (hx : ∀ σ, PassesAt CX X σ (E σ))
    (ha : PA X (e :: es) t) (hdb : (x == ("__debug__" : Str)) = false := by decide) (he : starEach (e :: es) X.env = (false, eval e X.env) :: starEach es X.env := by rfl) (hpl : (backTo pos (starEach es X.env)).any (·.1) = false := by rfl) :
    PE X (.Call (.Name x p) (e :: es) [] pos) (tCallS (fun vs H Q E => sp (vs ++ dvs) H Q E) E t) := by
  refine ⟨fun pins s σ H Q I h => ?_⟩
  refine wpAny_Call_Name_kw (ld_glob I hg hm ?_ hdb)
  refine PySem.W.callWith_K (h₀ := X.base) I.ok.mod.kin hk (thn (ha.run pos pins s σ H _ I h) fun us s1 ⟨vs, H1, I1, r, q⟩ => ⟨I1.kIn, ?_⟩) he hpl
  refine wpAny_call (codeAny_mono (F.raw hb hd X.A X.stack s1 H1 us vs Q (E σ) hr I1.env0 r q) fun r s' hq => ?_)
  cases r with
  | error e => exact hx σ pins H1 s1 e s' I1 hq
  | ok fl =>
    cases fl with
    | ret u => exact I1.after hq
    | next => exact False.elim hq
    | brk => exact False.elim hq
    | cont => exact False.elim hq
end
end Li

/-! A row in a row: by ticks and by blocks. -/
namespace Wm
open PySem L2
/-- the blocks: where each begins, and how many strokes it has -/
def spans : Nat → List Nat → List (Nat × Nat)
  | _, [] => []
  | f, d :: ds => (f, d) :: spans (f + 2 * d + 2) ds
theorem spans_len : ∀ (f : Nat) (ds : List Nat), (spans f ds).length = ds.length
  | _, [] => rfl
  | f, d :: ds => by rw [spans, List.length_cons, List.length_cons, spans_len _ ds]
theorem spans_app : ∀ (f : Nat) (ds : List Nat) (d : Nat), spans f (ds ++ [d]) = spans f ds ++ [(f + 2 * (ds.sum + ds.length), d)]
  | f, [], d => by simp [spans]
  | f, x :: ds, d => by
    rw [List.cons_append, spans, spans, spans_app _ ds d, List.cons_append, List.sum_cons, List.length_cons]
    have : f + 2 * x + 2 + 2 * (ds.sum + ds.length) = f + 2 * (x + ds.sum + (ds.length + 1)) := by omega
    rw [this]
theorem ones_blk_mem (f k : Nat) : ∀ d, k ∈ ones f (blk d) ↔ ∃ j, j < d ∧ k = f + 2 * j
  | 0 => by
    have : ones f (blk 0) = [] := rfl
    rw [this]
    exact ⟨fun h => absurd h List.not_mem_nil, fun ⟨j, h, _⟩ => absurd h (Nat.not_lt_zero _)⟩
  | d + 1 => by
    rw [ones_blk, List.mem_append, ones_blk_mem f k d, List.mem_singleton]
    constructor
    · rintro (⟨j, h, e⟩ | h)
      · exact ⟨j, by omega, e⟩
      · exact ⟨d, by omega, h⟩
    · rintro ⟨j, h, e⟩
      by_cases c : j = d
      · subst c; exact .inr e
      · exact .inl ⟨j, by omega, e⟩
theorem ones_spans : ∀ (ds : List Nat) (f k : Nat), k ∈ ones f (rowL ds) ↔ ∃ p ∈ spans f ds, ∃ j, j < p.2 ∧ k = p.1 + 2 * j
  | [], f, k => by
    have : ones f (rowL []) = [] := rfl
    rw [this]
    exact ⟨fun h => absurd h List.not_mem_nil, fun ⟨p, h, _⟩ => absurd h List.not_mem_nil⟩
  | d :: ds, f, k => by
    have e : ones f (rowL (d :: ds)) = ones f (blk d) ++ ones (f + 2 * d + 2) (rowL ds) := by
      show ones f (blk d ++ ([0, 0] ++ rowL ds)) = _
      rw [ones_app, ones_app, blk_len]
      rfl
    rw [e, List.mem_append, ones_blk_mem, ones_spans ds, spans]
    constructor
    · rintro (h | ⟨p, m, h⟩)
      · exact ⟨(f, d), List.mem_cons_self, h⟩
      · exact ⟨p, List.mem_cons_of_mem _ m, h⟩
    · rintro ⟨p, m, h⟩
      rcases List.mem_cons.mp m with rfl | m
      · exact .inl h
      · exact .inr ⟨p, m, h⟩
theorem spans_ge : ∀ (ds : List Nat) (f : Nat) (p : Nat × Nat), p ∈ spans f ds → f ≤ p.1 ∧ p.1 % 2 = f % 2 ∧ p.2 ∈ ds
  | [], f, p, h => by cases h
  | d :: ds, f, p, h => by
    rw [spans] at h
    rcases List.mem_cons.mp h with rfl | m
    · exact ⟨Nat.le_refl _, rfl, List.mem_cons_self⟩
    · obtain ⟨a, b, c⟩ := spans_ge ds _ p m
      exact ⟨by omega, by omega, List.mem_cons_of_mem _ c⟩
theorem spans_up : ∀ (ds : List Nat) (f : Nat), (spans f ds).Pairwise fun p q => p.1 + 2 * p.2 + 2 ≤ q.1
  | [], f => .nil
  | d :: ds, f => by
    rw [spans]
    exact .cons (fun q m => (spans_ge ds _ q m).1) (spans_up ds _)
theorem tri {α : Type} {R : α → α → Prop} {a b : α} : ∀ {l : List α}, l.Pairwise R → a ∈ l → b ∈ l → a = b ∨ R a b ∨ R b a
  | [], _, h, _ => by cases h
  | x :: l, h, ha, hb => by
    rw [List.pairwise_cons] at h
    rcases List.mem_cons.mp ha with rfl | ma
    · rcases List.mem_cons.mp hb with rfl | mb
      · exact .inl rfl
      · exact .inr (.inl (h.1 _ mb))
    · rcases List.mem_cons.mp hb with rfl | mb
      · exact .inr (.inr (h.1 _ ma))
      · exact tri h.2 ma mb
/-- block p, moved by a, within block q -/
def inB (a : Int) (p q : Nat × Nat) : Bool := decide (a % 2 = 0 ∧ (q.1 : Int) ≤ a + p.1 ∧ a + ((p.1 : Int) + 2 * ((p.2 : Int) - 1)) ≤ (q.1 : Int) + 2 * ((q.2 : Int) - 1))
theorem inB_iff {a : Int} {p q : Nat × Nat} (h1 : p.1 % 2 = 0) (h2 : 1 ≤ p.2) (h3 : q.1 % 2 = 0) : inB a p q = true ↔ ∀ j, j < p.2 → ∃ i, i < q.2 ∧ (p.1 : Int) + 2 * (j : Nat) + a = (q.1 : Int) + 2 * (i : Nat) := by
  unfold inB
  rw [decide_eq_true_iff]
  constructor
  · rintro ⟨x, y, z⟩ j hj
    refine ⟨(((p.1 : Int) + 2 * (j : Nat) + a - q.1) / 2).toNat, ?_, ?_⟩
    · omega
    · omega
  · intro h
    obtain ⟨i, hi, e⟩ := h 0 (by omega)
    obtain ⟨i2, hi2, e2⟩ := h (p.2 - 1) (by omega)
    exact ⟨by omega, by omega, by omega⟩
/-- the strokes' offsets -/
def SI (ds : List Nat) : List Int := (ones 0 (rowL ds)).map fun (k : Nat) => (k : Int)
theorem SI_mem {ds : List Nat} {k : Int} : k ∈ SI ds ↔ ∃ p ∈ spans 0 ds, ∃ j : Nat, j < p.2 ∧ k = (p.1 : Int) + 2 * (j : Int) := by
  unfold SI
  rw [List.mem_map]
  constructor
  · rintro ⟨n, m, rfl⟩
    obtain ⟨p, mp, j, hj, e⟩ := (ones_spans ds 0 n).mp m
    exact ⟨p, mp, j, hj, by omega⟩
  · rintro ⟨p, mp, j, hj, e⟩
    exact ⟨p.1 + 2 * j, (ones_spans ds 0 _).mpr ⟨p, mp, j, hj, rfl⟩, by omega⟩
theorem key {a : Int} {p : Nat × Nat} {es : List Nat} (h1 : p.1 % 2 = 0) (h2 : 1 ≤ p.2) : (∀ j : Nat, j < p.2 → (p.1 : Int) + 2 * (j : Int) + a ∈ SI es) ↔ ∃ q ∈ spans 0 es, inB a p q = true := by
  constructor
  · intro h
    obtain ⟨q, mq, i0, hi0, e0⟩ := SI_mem.mp (h 0 (by omega))
    refine ⟨q, mq, (inB_iff h1 h2 (spans_ge es 0 q mq).2.1).mpr fun j => ?_⟩
    induction j with
    | zero => exact fun _ => ⟨i0, hi0, e0⟩
    | succ j ih =>
      intro hj
      obtain ⟨i, hi, e⟩ := ih (by omega)
      obtain ⟨q2, mq2, i2, hi2, e2⟩ := SI_mem.mp (h (j + 1) hj)
      rcases tri (spans_up es 0) mq mq2 with z | z | z
      · subst z
        exact ⟨i2, hi2, e2⟩
      · omega
      · omega
  · rintro ⟨q, mq, hq⟩ j hj
    obtain ⟨i, hi, e⟩ := (inB_iff h1 h2 (spans_ge es 0 q mq).2.1).mp hq j hj
    exact SI_mem.mpr ⟨q, mq, i, hi, e⟩
def home (a : Int) (qs : List (Nat × Nat)) (p : Nat × Nat) : Option Nat := qs.findIdx? (inB a p)
/-- the block of each block -/
def FitL (a : Int) (ds es : List Nat) : List Nat := if (spans 0 ds).all (fun p => (home a (spans 0 es) p).isSome) then (spans 0 ds).map (fun p => (home a (spans 0 es) p).getD 0) else []
def insB (ds es : List Nat) (a : Int) : Bool := (SI ds).all fun k => decide (k + a ∈ SI es)
theorem ins_iff {ds es : List Nat} {a : Int} : insB ds es a = true ↔ ∀ k ∈ SI ds, k + a ∈ SI es := by
  unfold insB
  rw [List.all_eq_true]
  exact ⟨fun h k m => of_decide_eq_true (h k m), fun h k m => decide_eq_true (h k m)⟩
theorem home_some {a : Int} {p : Nat × Nat} {es : List Nat} : (home a (spans 0 es) p).isSome = true ↔ ∃ q ∈ spans 0 es, inB a p q = true := by
  unfold home
  rw [List.findIdx?_isSome, List.any_eq_true]
theorem fit_all {ds es : List Nat} {a : Int} (N : Num ds) : (spans 0 ds).all (fun p => (home a (spans 0 es) p).isSome) = insB ds es a := by
  rw [Bool.eq_iff_iff, ins_iff, List.all_eq_true]
  constructor
  · intro h k mk
    obtain ⟨p, mp, j, hj, rfl⟩ := SI_mem.mp mk
    have sp := spans_ge ds 0 p mp
    exact (key sp.2.1 (N.dig _ sp.2.2).1).mpr (home_some.mp (h p mp)) j hj
  · intro h p mp
    have sp := spans_ge ds 0 p mp
    exact home_some.mpr ((key sp.2.1 (N.dig _ sp.2.2).1).mp fun j hj => h _ (SI_mem.mpr ⟨p, mp, j, hj, rfl⟩))
theorem fit_ne {ds es : List Nat} {a : Int} (N : Num ds) : (decide (FitL a ds es ≠ [])) = insB ds es a := by
  unfold FitL
  rw [fit_all N]
  cases insB ds es a with
  | false => simp
  | true =>
    simp only [if_true]
    refine decide_eq_true fun e => ?_
    have := congrArg List.length e
    rw [List.length_map, spans_len, List.length_nil] at this
    have := N.pos
    omega
theorem zero_in {ds : List Nat} (N : Num ds) : (0 : Int) ∈ SI ds := by
  obtain ⟨d, r, e⟩ : ∃ d r, ds = d :: r := by
    have := N.pos
    cases ds with
    | nil => simp at this
    | cons d r => exact ⟨d, r, rfl⟩
  subst e
  exact SI_mem.mpr ⟨(0, d), by rw [spans]; exact List.mem_cons_self, 0, (N.dig d List.mem_cons_self).1, rfl⟩
theorem SI_lt {ds : List Nat} {k : Int} (h : k ∈ SI ds) : 0 ≤ k ∧ k < (rowL ds).length ∧ k % 2 = 0 := by
  obtain ⟨n, m, rfl⟩ := List.mem_map.mp h
  obtain ⟨j, e, g⟩ := (ones_mem _ _ _).mp m
  have := (List.getElem?_eq_some_iff.mp g).1
  obtain ⟨p, mp, i, hi, e2⟩ := (ones_spans ds 0 n).mp m
  have := (spans_ge ds 0 p mp).2.1
  exact ⟨by omega, by omega, by omega⟩
theorem ins_at {ds es : List Nat} {a : Int} (N : Num ds) (h : insB ds es a = true) : 0 ≤ a ∧ a < (rowL es).length ∧ a % 2 = 0 := by
  have := ins_iff.mp h 0 (zero_in N)
  rw [Int.zero_add] at this
  exact SI_lt this
/-- where ds fits into es -/
def DI (ds es : List Nat) : List Int := ((List.range (rowL es).length).map fun (i : Nat) => (i : Int)).filter (insB ds es)
theorem range_up (n : Nat) (c : Int) (hc : 0 < c) : ((List.range n).map fun (i : Nat) => (i : Int) * c).Pairwise (· < ·) := by
  rw [List.pairwise_map]
  exact List.pairwise_lt_range.imp fun {x y} h => Int.mul_lt_mul_of_pos_right (by omega) hc
theorem range_up1 (n : Nat) : ((List.range n).map fun (i : Nat) => (i : Int)).Pairwise (· < ·) := by
  rw [List.pairwise_map]
  exact List.pairwise_lt_range.imp fun {x y} h => by omega
theorem DI_up (ds es : List Nat) : (DI ds es).Pairwise (· < ·) := (range_up1 _).filter _
theorem DI_mem {ds es : List Nat} {a : Int} (N : Num ds) : a ∈ DI ds es ↔ insB ds es a = true := by
  unfold DI
  rw [List.mem_filter, List.mem_map]
  constructor
  · exact fun h => h.2
  · intro h
    obtain ⟨h0, h1, _⟩ := ins_at N h
    exact ⟨⟨a.toNat, List.mem_range.mpr (by omega), by omega⟩, h⟩
theorem DI_trans {ds es fs : List Nat} {a c : Int} (N : Num ds) (M : Num es) (h : a ∈ DI ds es) (g : c ∈ DI es fs) : a + c ∈ DI ds fs := by
  rw [DI_mem N, ins_iff] at *
  rw [DI_mem M, ins_iff] at g
  intro k mk
  have := g _ (h k mk)
  rwa [Int.add_assoc] at this
theorem SI_up (ds : List Nat) : (SI ds).Pairwise (· < ·) := by
  unfold SI
  rw [List.pairwise_map]
  have : ∀ (xs : List Int) (o : Nat), (ones o xs).Pairwise (· < ·) ∧ ∀ k ∈ ones o xs, o ≤ k := by
    intro xs
    induction xs with
    | nil => exact fun o => ⟨.nil, fun k m => by cases m⟩
    | cons x xs ih =>
      intro o
      obtain ⟨a, b⟩ := ih (o + 1)
      unfold ones
      split
      · exact ⟨.cons (fun k m => by have := b k m; omega) a, fun k m => by
          rcases List.mem_cons.mp m with rfl | m
          · exact Nat.le_refl _
          · have := b k m; omega⟩
      · exact ⟨a, fun k m => by have := b k m; omega⟩
  exact (this (rowL ds) 0).1.imp fun {x y} h => by omega
theorem DI_self {ds : List Nat} (N : Num ds) : DI ds ds = [0] := by
  have h0 : insB ds ds 0 = true := ins_iff.mpr fun k m => by rw [Int.add_zero]; exact m
  have only : ∀ a, insB ds ds a = true → a = 0 := fun a h => by
    have h1 := (ins_at N h).1
    by_cases c : a = 0
    · exact c
    · -- the last stroke moves beyond itself
      have no : ∀ (l : List Int), l ≠ [] → l.Pairwise (· < ·) → ∃ m ∈ l, ∀ k ∈ l, k ≤ m := by
        intro l
        induction l with
        | nil => exact fun h => absurd rfl h
        | cons x l ih =>
          intro _ hp
          rw [List.pairwise_cons] at hp
          by_cases e : l = []
          · subst e
            exact ⟨x, List.mem_cons_self, fun k m => by rw [List.mem_singleton.mp m]; exact Int.le_refl _⟩
          · obtain ⟨m, mm, hm⟩ := ih e hp.2
            refine ⟨m, List.mem_cons_of_mem _ mm, fun k mk => ?_⟩
            rcases List.mem_cons.mp mk with rfl | mk
            · have := hp.1 m mm; omega
            · exact hm k mk
      obtain ⟨m, mm, hm⟩ := no (SI ds) (fun e => by have := zero_in N; rw [e] at this; cases this) (SI_up ds)
      have := hm _ (ins_iff.mp h m mm)
      omega
  have e : ∀ a, a ∈ DI ds ds ↔ a ∈ [(0 : Int)] := fun a => by
    rw [DI_mem N, List.mem_singleton]
    exact ⟨only a, fun h => by rw [h]; exact h0⟩
  have up := DI_up ds ds
  cases q : DI ds ds with
  | nil => have := (e 0).mpr (by simp); rw [q] at this; cases this
  | cons x l =>
    rw [q] at up e
    rw [List.pairwise_cons] at up
    have hx : x = 0 := by simpa using (e x).mp List.mem_cons_self
    subst hx
    cases l with
    | nil => rfl
    | cons y l =>
      have hy : y = 0 := by simpa using (e y).mp (by simp)
      have := up.1 y List.mem_cons_self
      omega
end Wm

/-! sorted(set of ints), any number of members. -/
namespace Sa
open PySem PySem.Spec PyProof.Rows L2
section
variable {P : Program} {w : World} {A : Around} {E : Value → Shared → Prop} {s : Shared} {a : Addr}
theorem sorted_setAny {S : Int → Bool} {n : Nat} {Q : Value → Shared → Prop} (R : SetR w s.heap a S n) (hh : A.handled = none) (hn4 : n ≤ 4000)
    (hQ : ∀ s' p (out : Array Value) (c : Nat) (ns : List Int), (∀ b o, s.heap.get? b = some o → s'.heap.get? b = some o) → s'.gens = s.gens → s'.os = s.os → s.heap.objs.size ≤ p →
      s'.heap.get? p = some (seqObj "list" out c) → IntsAre out.toList ns → ns.Pairwise (· < ·) → (∀ k, k ∈ ns ↔ S k = true) → ns.length = n → Q (.ref p) s') :
    wpAny (model P w) A (call (.builtin "sorted") [.ref a]) Q E s := by
  obtain ⟨o, es, ep, t, ho, hex, hd, g, nd, hm, hb, hf, hn, hr, hl⟩ := R
  refine Calls.call_function_entry kind_sorted plain_sorted entry_sorted (args_sorted1 _) ?_
  unfold Builtin.«sorted»
  refine wpAny_bind (m := checkCount "sorted" 1 1 _) (wpAny_pure ?_)
  refine wpAny_bind (collect_set (A := A.in1) hh ⟨o, ho, hex.1, hd⟩ hf hb hr hl fun s1 vs k1 hz g1 o1 pm => ?_)
  have hvl : vs.length = n := by rw [pm.length_eq, List.length_map, Array.length_toList]; exact hn
  have hI : IntsAre vs (vs.map Builtin.Re.reRawOf) := ints_of vs fun v hv => by
    obtain ⟨e, he, q⟩ := List.mem_map.mp (pm.mem_iff.mp hv)
    obtain ⟨k, tk, h1, _⟩ := g e he
    exact ⟨k, tk, by rw [← q]; exact h1⟩
  have pk : (vs.map Builtin.Re.reRawOf).Perm (es.toList.map keyOf) := by
    have q := pm.map Builtin.Re.reRawOf
    rw [List.map_map] at q
    exact q
  refine wpAny_bind (wpAny_newList ?_ (by rw [hvl, sizeLine_eq]; omega))
  have hoL : (s1.heap.push (seqObj "list" vs.toArray 0)).get? s1.heap.objs.size = some (seqObj "list" vs.toArray 0) := Heap.get?_push_size _ rfl
  refine wpAny_bind (wpAny_holding (wpAny_call_entry slot_list_sort ⟨_, hoL, rfl⟩ entry_list_sort (list_sort_treeAny hoL hI (by rw [hvl, sizeLine_eq]; omega) fun out ns' a1 a2 a3 => ⟨_, rfl, ?_⟩) (args_list_sort _)))
  obtain ⟨c, hc⟩ := sortedHeap_at (vs := vs) (out := out) hoL
  have pn : ns'.Perm (es.toList.map keyOf) := a2.trans pk
  refine wpAny_pure ⟨_, rfl, hQ _ s1.heap.objs.size out c ns' (fun b u e => ?_) g1 o1 hz hc a1 (lt_of_le_nodup ns' a3 (pn.nodup_iff.mpr nd)) (fun k => by rw [pn.mem_iff, ← hm k]) ?_⟩
  · have q := k1 b u e
    have hlt := Heap.lt_size q
    show (sortedHeap (s1.heap.push (seqObj "list" vs.toArray 0)) s1.heap.objs.size vs out).get? b = some u
    rw [sortedHeap_old (Nat.ne_of_lt hlt) (by rw [size_push']; exact Nat.lt_succ_of_lt hlt)]
    exact Heap.get?_push_of_some _ q
  · rw [pn.length_eq, List.length_map, Array.length_toList]; exact hn
end
section
variable {X : Cx}
def rSortedSetA (w : World) : List V → Hp → VK → Prop := fun vs H Q => ∃ (a : Addr) (S : Int → Bool) (n : Nat), vs = [V.ref a] ∧ H a = some (SetO w a S n) ∧ n ≤ 4000 ∧
  ∀ (ns : List Int) (p : Addr), ns.Pairwise (· < ·) → (∀ k : Int, k ∈ ns ↔ S k = true) → ns.length = n → H p = none → Q (.ref p) (upd H p (.lst (ns.map V.int)))
theorem cr_sortedSetA (hc : X.calm = true) : CallR X (.builtin "sorted") (rSortedSetA X.w) := by
  intro pins s σ H vs us Q I r h
  obtain ⟨a, S, n, rfl, ha, h64, q⟩ := h
  have R := setO_get I ha
  rw [Vals.ref1 r]
  refine sorted_setAny R (I.ok.hd hc) h64 fun s' p out c ns k g o hp hg hi hs hm hl => ?_
  have hlen : (ns.map V.int).length ≤ sizeLine := by rw [List.length_map, hl, sizeLine_eq]; omega
  have hn : H p = none := I.hok.fresh hp
  have J : Inv X pins σ (upd H p (.lst (ns.map V.int))) { s with heap := s'.heap, gens := s'.gens, drawn := s'.drawn, toks := s'.toks } :=
    I.call (ch := []) (Un.laid k hp hn) (I.hok.laid k hp ⟨hlen, out.toList, c, vals_of_ints hi, hg⟩) (by rw [g]; exact I.bare) (fun _ z => nomatch z)
  have e : s' = { s with heap := s'.heap, gens := s'.gens, drawn := s'.drawn, toks := s'.toks } := by
    cases s'
    cases s
    cases o
    rfl
  rw [e]
  exact ⟨.ref p, _, J, rfl, q ns p hs hm hl hn⟩
end
end Sa

/-! max of a list of pairs of ints. -/
namespace Mx
open PySem PySem.Spec PyProof.Rows L2 PySem.W
def pD (p : Int × Int) : PyData := .tuple [.int p.1, .int p.2]
/-- first by the first, then by the second -/
def Le2 (p q : Int × Int) : Prop := p.1 < q.1 ∨ (p.1 = q.1 ∧ p.2 ≤ q.2)
def rMaxP (K : PySem.W.Frag) : List V → Hp → VK → Prop := fun vs H Q => ∃ (a : Addr) (rs : List V) (ps : List (Int × Int)), vs = [V.ref a] ∧ SqL K H a rs ∧ DpAll K H rs (ps.map pD) ∧ ps ≠ [] ∧
  ∀ (i : Nat) r p, rs[i]? = some r → ps[i]? = some p → (∀ q ∈ ps, Le2 q p) → Q r H
theorem lt_pair (p q : Int × Int) : dataLt (pD p) (pD q) = true ↔ p.1 < q.1 ∨ (p.1 = q.1 ∧ p.2 < q.2) := by
  unfold pD
  rw [dataLt_tuple, dataLt_cons (by simp [alike])]
  by_cases c : p.1 = q.1
  · rw [if_pos (by simp [PyData.eqv, c]), dataLt_cons (by simp [alike])]
    by_cases c2 : p.2 = q.2
    · rw [if_pos (by simp [PyData.eqv, c2])]
      have e : PyProof.Rows.lexLt itemOrd (keyToksAll []) (keyToksAll []) = false := lex_irrefl _
      rw [e]
      simp [c, c2]
    · rw [if_neg (by simp [PyData.eqv, c2]), dataLt_int, decide_eq_true_iff]
      omega
  · rw [if_neg (by simp [PyData.eqv, c]), dataLt_int, decide_eq_true_iff]
    omega
theorem max_spec : ∀ (ps : List (Int × Int)) (p : Int × Int), ∃ m, m ∈ p :: ps ∧ maxD (pD p) (ps.map pD) = pD m ∧ ∀ q ∈ p :: ps, Le2 q m
  | [], p => ⟨p, List.mem_cons_self, rfl, fun q m => by rw [List.mem_singleton.mp m]; exact .inr ⟨rfl, Int.le_refl _⟩⟩
  | q :: ps, p => by
    have e : maxD (pD p) ((q :: ps).map pD) = maxD (if dataLt (pD p) (pD q) then pD q else pD p) (ps.map pD) := rfl
    by_cases c : dataLt (pD p) (pD q) = true
    · obtain ⟨m, mm, me, ml⟩ := max_spec ps q
      refine ⟨m, List.mem_cons_of_mem _ mm, by rw [e, if_pos c, me], fun x mx => ?_⟩
      rcases List.mem_cons.mp mx with rfl | mx
      · have h1 := (lt_pair _ _).mp c
        have h2 := ml q List.mem_cons_self
        unfold Le2 at h2 ⊢
        omega
      · exact ml x mx
    · obtain ⟨m, mm, me, ml⟩ := max_spec ps p
      refine ⟨m, ?_, by rw [e, if_neg c, me], fun x mx => ?_⟩
      · rcases List.mem_cons.mp mm with z | z
        · rw [z]; exact List.mem_cons_self
        · exact List.mem_cons_of_mem _ (List.mem_cons_of_mem _ z)
      · rcases List.mem_cons.mp mx with rfl | mx
        · exact ml x List.mem_cons_self
        · rcases List.mem_cons.mp mx with rfl | mx
          · have h1 : ¬ (p.1 < x.1 ∨ (p.1 = x.1 ∧ p.2 < x.2)) := fun z => c ((lt_pair _ _).mpr z)
            have h2 := ml p List.mem_cons_self
            unfold Le2 at h2 ⊢
            omega
          · exact ml x (List.mem_cons_of_mem _ mx)
theorem pD_inj {p q : Int × Int} (h : pD p = pD q) : p = q := by
  unfold pD at h
  injection h with h
  injection h with h1 h
  injection h with h2 h
  injection h1 with h1
  injection h2 with h2
  exact Prod.ext h1 h2
theorem pD_deep : ∀ ps : List (Int × Int), PyData.depthAll (ps.map pD) ≤ 3
  | [] => by show PyData.depthAll [] ≤ 3; decide
  | p :: ps => by
    have h : PyData.depthAll (pD p :: ps.map pD) = max (PyData.depth (pD p)) (PyData.depthAll (ps.map pD)) := rfl
    rw [List.map_cons, h]
    refine Nat.max_le.mpr ⟨?_, pD_deep ps⟩
    show PyData.depth (.tuple [.int p.1, .int p.2]) ≤ 3
    simp [PyData.depth, PyData.depthAll]
theorem pD_alike (ps : List (Int × Int)) : AlikeAll (ps.map pD) := by
  refine ⟨fun x mx y my => ?_, fun x mx => ?_⟩
  · obtain ⟨p, _, rfl⟩ := List.mem_map.mp mx
    obtain ⟨q, _, rfl⟩ := List.mem_map.mp my
    simp [pD, alike, alikeAll]
  · obtain ⟨p, _, rfl⟩ := List.mem_map.mp mx
    intro e
    cases e
theorem cr_maxP {X : Cx} (hc : X.calm = true) (hu : X.A.units + 64 < cLine) : CallR X (.builtin "max") (rMaxP X.K) := by
  intro pins s σ H vs us Q I r h
  obtain ⟨a, rs, ps, rfl, hs, hd, hne, q⟩ := h
  obtain ⟨its, rv, hl, _⟩ := I.list hs
  rw [Vals.ref1 r]
  match ps, hne, hd, q with
  | p :: ps, _, hd, q =>
  obtain ⟨as, hr⟩ := Dp.readsAll I _ rs its hd rv
  have hr2 : ReadsAll s.heap its.toArray.toList (pD p :: ps.map pD) as := by simpa using hr
  have hu' := pD_deep (p :: ps)
  rw [List.map_cons] at hu'
  refine max_list_data (I.ok.hd hc) hl.isList hr2 (pD_alike (p :: ps)) (by omega) fun i v h' tk bs hv hR hk => ?_
  obtain ⟨cs, r1, i1, _, _⟩ := readsAll_atA hr2 i v hv
  obtain ⟨e, _⟩ := PyProof.Rows.reads_det (fun _ _ e _ => e) (reads_keeps hk r1) hR
  have hv2 : its[i]? = some v := by simpa using hv
  have il : i < rs.length := by
    rw [rv.length]
    exact (List.getElem?_eq_some_iff.mp hv2).1
  have hx : rs[i]? = some rs[i] := List.getElem?_eq_getElem il
  obtain ⟨u, hu2, ru⟩ := rv.get hx
  have eu : u = v := Option.some.inj (hu2.symm.trans hv2)
  subst eu
  have il2 : i < (p :: ps).length := by simpa using i1
  have hp : (p :: ps)[i]? = some (p :: ps)[i] := List.getElem?_eq_getElem il2
  obtain ⟨m, _, me, ml⟩ := max_spec ps p
  have e3 : (pD p :: ps.map pD).getD i .none = pD (p :: ps)[i] := by
    have : (pD p :: ps.map pD)[i]? = some (pD (p :: ps)[i]) := by
      rw [← List.map_cons, List.getElem?_map, hp]
      rfl
    rw [List.getD_eq_getElem?_getD, this]
    rfl
  have e4 : (p :: ps)[i] = m := pD_inj (by rw [← e3, ← e, me])
  refine ⟨_, H, I.kept hk, ru, q i _ _ hx hp (by rw [e4]; exact ml)⟩
end Mx
/-! min(xs, default=d) of a list of ints. -/
namespace Mx
open PySem PySem.Spec PyProof.Rows L2 PySem.W
theorem with_kwB {M : Model} {A : Around} {E : Value → Shared → Prop} {s : Shared} {env : Env} {pos : Pos} {T : String} {e : Expr} {rest : List Expr} {kws : List Keyword} {Q : Value → Shared → Prop}
    (h : wpAny M A (spliced (backTo pos (starEach (e :: rest) env))) (fun vs s1 => wpAny M A (evalAll ((backToKw pos (keywordEach kws env)).map (·.2))) (fun zs s2 => wpAny M A (call (.builtin T) vs (((backToKw pos (keywordEach kws env)).filterMap (·.1)).zip zs)) Q E s2) E s1) E s)
    (h1 : (backTo pos (starEach (e :: rest) env)).any (·.1) = false) (h2 : (backToKw pos (keywordEach kws env)).any (·.1.isNone) = false) (h3 : (backToKw pos (keywordEach kws env)).all (·.1.isSome) = true) (h4 : starEach (e :: rest) env = (false, eval e env) :: starEach rest env) :
    wpAny M A (callWith pos (.builtin T) [] (backTo pos (starEach (e :: rest) env)) (backToKw pos (keywordEach kws env))) Q E s := by
  have g : wpAny M A (evalArgs (.builtin T) true (backTo pos (starEach (e :: rest) env)) (backToKw pos (keywordEach kws env))) (fun a s1 => wpAny M A (call (.builtin T) ([] ++ a.pos) a.kw) Q E s1) E s := evalArgs_kw2 h3 h h4
  unfold callWith
  refine wpAny_bind (wpAny_holding (wpAny_mono g (fun a s1 r => wpAny_bind (wpAny_standAt ?_)) fun _ _ z => z))
  simp only [h1, h2, Bool.or_false]
  refine wpAny_bind (wpAny_pure ?_)
  exact wpAny_bind (wpAny_mono r (fun z s2 hz => wpAny_bind (wpAny_holding (wpAny_point (wpAny_pure hz)))) fun _ _ z => z)
def tMinDf (K : PySem.W.Frag) (ta tk : TA) : TE := fun σ H Q => ta σ H fun vs H1 => tk σ H1 fun zs H2 => ∃ (a : Addr) (ns : List Int) (z : V), vs = [.ref a] ∧ zs = [z] ∧ SqL K H2 a (ns.map V.int) ∧ (ns = [] → Q z H2) ∧ ∀ m, m ∈ ns → (∀ y ∈ ns, m ≤ y) → Q (.int m) H2
theorem ints_alike (ns : List Int) : AlikeAll (ns.map PyData.int) := by
  refine ⟨fun x mx y my => ?_, fun x mx => ?_⟩
  · obtain ⟨p, _, rfl⟩ := List.mem_map.mp mx
    obtain ⟨q, _, rfl⟩ := List.mem_map.mp my
    simp [alike]
  · obtain ⟨p, _, rfl⟩ := List.mem_map.mp mx
    intro e
    cases e
theorem ints_deep : ∀ ns : List Int, PyData.depthAll (ns.map PyData.int) ≤ 3
  | [] => by show PyData.depthAll [] ≤ 3; decide
  | p :: ps => by
    have h : PyData.depthAll (PyData.int p :: ps.map PyData.int) = max (PyData.depth (PyData.int p)) (PyData.depthAll (ps.map PyData.int)) := rfl
    rw [List.map_cons, h]
    refine Nat.max_le.mpr ⟨?_, ints_deep ps⟩
    simp [PyData.depth]
theorem dp_is {K : PySem.W.Frag} {H : Hp} : ∀ ns : List Int, DpAll K H (ns.map V.int) (ns.map PyData.int)
  | [] => .nil
  | n :: ns => .cons (.int n) (dp_is ns)
theorem fold_min : ∀ (ns : List Int) (n : Int), ns.foldl min n ∈ n :: ns ∧ ∀ y ∈ n :: ns, ns.foldl min n ≤ y
  | [], n => ⟨List.mem_cons_self, fun y m => by rw [List.mem_singleton.mp m]; exact Int.le_refl _⟩
  | k :: ns, n => by
    obtain ⟨h1, h2⟩ := fold_min ns (min n k)
    rw [List.foldl_cons]
    refine ⟨?_, fun y m => ?_⟩
    · rcases List.mem_cons.mp h1 with z | z
      · rw [z]
        rcases Int.le_total n k with c | c
        · rw [Int.min_eq_left c]; exact List.mem_cons_self
        · rw [Int.min_eq_right c]; exact List.mem_cons_of_mem _ List.mem_cons_self
      · exact List.mem_cons_of_mem _ (List.mem_cons_of_mem _ z)
    · have h3 := h2 _ List.mem_cons_self
      rcases List.mem_cons.mp m with z | m
      · rw [z]; omega
      · rcases List.mem_cons.mp m with z | m
        · rw [z]; omega
        · exact h2 y (List.mem_cons_of_mem _ m)
theorem pe_minDf {X : Cx} {e : Expr} {ta tk : TA} {p pos : Pos} {kws : List Keyword} (hc : X.calm = true) (hu : X.A.units + 64 < cLine) (hg : Gl X "min") (hm : X.mg "min" = none) (ha : PA X [e] ta) (hk : PK X kws tk)
    (h4 : starEach [e] X.env = [(false, eval e X.env)] := by rfl) (h1 : (backTo pos (starEach [e] X.env)).any (·.1) = false := by rfl) (h2 : (backToKw pos (keywordEach kws X.env)).any (·.1.isNone) = false := by rfl)
    (h3 : (backToKw pos (keywordEach kws X.env)).all (·.1.isSome) = true := by rfl) (h5 : (backToKw pos (keywordEach kws X.env)).filterMap (·.1) = [Str.ofString "default"] := by rfl) :
    PE X (.Call (.Name "min" p) [e] kws pos) (tMinDf X.K ta tk) := by
  refine ⟨fun pins s σ H Q I h => ?_⟩
  refine wpAny_Call_Name_kw (ld_blt I hg hm (by decide +kernel : bootBuiltins ("min" : Str) = some (.builtin "min")) (with_kwB (thn (ha.run pos pins s σ H _ I h) fun us s1 ⟨vs, H1, I1, r1, q1⟩ => thn (hk.run pos pins s1 σ H1 _ I1 q1) fun ws s2 ⟨zs, H2, I2, r2, q2⟩ => ?_) h1 h2 h3 h4))
  obtain ⟨a, ns, z, ev, ez, hs, q0, q⟩ := q2
  subst ev ez
  rw [h5]
  cases r1 with
  | cons r rr =>
    cases rr
    cases r
    cases r2 with
    | cons rz zz =>
      cases zz
      obtain ⟨its, rv, hl, _⟩ := I2.list hs
      obtain ⟨as, hr⟩ := Dp.readsAll I2 _ _ its (dp_is (K := X.K) (H := H2) ns) rv
      have hr2 : ReadsAll s2.heap its.toArray.toList (ns.map PyData.int) as := by simpa using hr
      have hd := ints_deep ns
      refine min_list_default (I2.ok.hd hc) hl.isList hr2 (ints_alike ns) (by omega) (fun e0 h' tk' hk' => ?_) fun y ys i v h' tk' bs e0 hv hR hk' => ?_
      · have e1 : ns = [] := by simpa using e0
        exact ⟨z, H2, I2.kept hk', rz, q0 e1⟩
      · match ns, e0, q with
        | n :: ns, e0, q =>
          rw [List.map_cons] at e0
          injection e0 with ea eb
          subst ea eb
          rw [minD_ints] at hR
          cases hR with
          | int _ t =>
            obtain ⟨f1, f2⟩ := fold_min ns n
            exact ⟨.int _, H2, I2.kept hk', ⟨t, rfl⟩, q _ f1 f2⟩
end Mx

/-! len(set(xs)) of a list of texts: how many different ones. -/
namespace Sl
open PySem PySem.Spec PyProof.Rows
section
variable {prog : Program} {w : World} {A : Around} {E : Value → Shared → Prop} {s : Shared}
/-- c different ones among the first i: c = i just if they differ -/
def Cnt (xs : List Str) (i c : Nat) : Prop := c ≤ i ∧ (c = i ↔ (xs.take i).Nodup)
theorem cnt_zero (xs : List Str) : Cnt xs 0 0 := ⟨Nat.le_refl _, by simp⟩
theorem cnt_succ {xs : List Str} {i c : Nat} {x : Str} (h : Cnt xs i c) (hx : xs[i]? = some x) : Cnt xs (i + 1) (if decide (x ∈ xs.take i) = true then c else c + 1) := by
  obtain ⟨h1, h2⟩ := h
  have e : xs.take (i + 1) = xs.take i ++ [x] := by rw [List.take_add_one, hx]; rfl
  by_cases m : x ∈ xs.take i
  · rw [decide_eq_true m, if_pos rfl]
    refine ⟨by omega, ⟨fun z => absurd z (by omega), fun z => ?_⟩⟩
    rw [e, List.nodup_append] at z
    exact absurd rfl (z.2.2 x m x (by simp))
  · rw [decide_eq_false m, if_neg (by decide)]
    refine ⟨by omega, ?_⟩
    rw [e, List.nodup_append]
    constructor
    · intro z
      refine ⟨h2.mp (by omega), by simp, fun a ha b hb q => m ?_⟩
      rw [List.mem_singleton] at hb
      rw [← hb, ← q]
      exact ha
    · intro z
      have := h2.mpr z.1
      omega
abbrev so (led : Bool) : Obj := { cls := .type "set", dict := none, data := .set #[] 0 (.fresh 0 0 led) }
theorem at_keep {h h' : Heap} {S : Addr} {f : Str → Bool} {n : Nat} (R : h.SetOf (PySem.strKind prog w) S f n) (k : ∀ o, h.get? S = some o → h'.get? S = some o) : h'.SetOf (PySem.strKind prog w) S f n := by
  obtain ⟨o, es, ep, t, ho, r⟩ := R
  exact ⟨o, es, ep, t, k _ ho, r⟩
theorem fill {R : Result → Shared → Prop} {I : Addr} {fp wr : List Addr} {G : Array GenState → Array GenState → Prop} {n : Nat} {P : Nat → Value → Prop} {St : Nat → Shared → Prop}
    (W : WalksS prog w A.in1 I fp wr G n P St) (S : Addr) (hSf : S ∉ fp) (xs : List Str) (hsz : xs.length = n) (hb : n + 1 < scanBound) (hval : ∀ i v, P i v → ∃ x t, xs[i]? = some x ∧ v = .str x t) :
    ∀ (k i : Nat) (s : Shared), n - i = k → i ≤ n → St i s → (∃ c, Cnt xs i c ∧ s.heap.SetOf (PySem.strKind prog w) S (fun y => decide (y ∈ xs.take i)) c) →
      (∀ s' c, Moved (S :: wr) G s s' → Cnt xs n c → s'.heap.SetOf (PySem.strKind prog w) S (fun y => decide (y ∈ xs.take n)) c → R (.ok (.ret .none)) s') →
      codeAny (model prog w) A (.builtin "set.update.loop" ⟨[.ref S, .ref I], []⟩) R s := by
  have nw : S ∉ wr := fun h => hSf (W.sub _ h)
  have more : ∀ b ∈ wr, b ∈ S :: wr := fun b hb => List.mem_cons_of_mem _ hb
  intro k
  induction k with
  | zero =>
    intro i s hk hi st ⟨c, hc, hS⟩ hR
    have e : i = n := by omega
    subst e
    refine codeAny_builtin PyProof.Rows.F.entry_set_update_loop ?_
    rw [Around.under_plainId PyProof.Rows.F.plain_set_update_loop _]
    show wpAny _ A.in1 (pyNext (.ref I) >>= _) _ _ s
    refine wpAny_bind (W.done s _ _ st fun s' hm => ?_)
    show wpAny _ A.in1 (ret Value.none) _ _ s'
    exact wpAny_pure (hR s' c (hm.mono more) hc (at_keep hS fun o e => hm.heap S o nw e))
  | succ k ih =>
    intro i s hk hi st ⟨c, hc, hS⟩ hR
    have lt : i < n := by omega
    refine codeAny_builtin PyProof.Rows.F.entry_set_update_loop ?_
    rw [Around.under_plainId PyProof.Rows.F.plain_set_update_loop _]
    show wpAny _ A.in1 (pyNext (.ref I) >>= _) _ _ s
    refine wpAny_bind (W.item i s _ _ lt st fun v s' hP st' hm => ?_)
    obtain ⟨x, t, hx, rfl⟩ := hval i v hP
    have hS1 := at_keep (h' := s'.heap) hS fun o e => hm.heap S o nw e
    show wpAny _ A.in1 (holding [Value.str x t] (setAdd S (.str x t)) >>= _) _ _ s'
    refine wpAny_bind (wpAny_holding ?_)
    unfold setAdd
    refine wpAny_holding ?_
    refine wpAny_bind ((PySem.strKind prog w).pyHash (k := x) (strKind_is _ _ _ _) ?_)
    refine wpAny_setAddHashed_of (knd := PySem.strKind prog w) (s := { s' with toks := s'.toks + 1 }) (strKind_is _ _ _ _) rfl hS1 (by have := hc.1; omega) fun g same hS2 => ?_
    have hS3 := SetOf_congr (S' := fun y => decide (y ∈ xs.take (i + 1))) hS2 (fun y => by
      rw [List.take_add_one, hx]
      simp [List.mem_append]) rfl
    refine wpAny_pure ⟨plainId_quiet PyProof.Rows.F.plain_set_update_loop _, ih (i + 1) _ (by omega) lt (W.frame _ s' _ _ st' (Nat.le_succ _) fun b hb o e => ?_) ⟨_, cnt_succ hc hx, hS3⟩ fun s2 c2 m2 hc2 hS4 => ?_⟩
    · rw [same.2 b (fun h : b = S => hSf (by rw [← h]; exact hb))]
      exact e
    · refine hR s2 c2 (Moved.trans W.gtrans ((hm.mono more).then_heap (Nat.le_succ _) fun b o hb e => ?_) m2) hc2 hS4
      rw [same.2 b (fun h : b = S => hb (by rw [h]; exact List.mem_cons_self))]
      exact e
set_option maxHeartbeats 3200000 in
theorem set_strs {l : Addr} {its : Array Value} {xs : List Str} {Q : Value → Shared → Prop} (hh : A.handled = none) (hl : s.heap.IsList l its) (hi : PyProof.Rows.StrsAre its.toList xs) (hb : xs.length + 1 < scanBound)
    (q : ∀ (g : Heap) (tk c : Nat), Cnt xs xs.length c → g.SetOf (PySem.strKind prog w) s.heap.objs.size (fun y => decide (y ∈ xs.take xs.length)) c → (∀ b o, b < s.heap.objs.size → s.heap.get? b = some o → g.get? b = some o) → Q (.ref s.heap.objs.size) { s with heap := g, toks := tk }) :
    wpAny (model prog w) A (call (.type "set") [.ref l]) Q E s := by
  obtain ⟨c0, tl0, m0⟩ := PySem.F.called_set.mro
  have a1 := PySem.F.called_set.made
  have a2 := PySem.F.called_set.sub
  refine wpAny_call (codeAny_of_tree ?_)
  show wpAny _ _ (callAny (.type "set") _) _ _ _
  refine wpAny_pure ⟨Code.quiet_builtin _ (by decide +kernel), codeAny_builtin PySem.F.entry_type_call ?_⟩
  rw [Around.under_plain (weight_type_call_type "set" [.ref l] []) rfl]
  have a3 := PySem.F.called_set.notType
  have a4 := PySem.F.called_set.canCreate
  have a5 := PySem.F.typeCall_set_1 (.ref l)
  repeat (any_goals (first | assumption | wp_step))
  refine codeAny_mono (code_set_new_1 (.ref l) (E := E) (Q₁ := fun ob s₁ => ∃ led : Bool, ob = .ref s.heap.objs.size ∧ s₁ = { s with heap := s.heap.push { cls := .type "set", dict := none, data := .set #[] 0 (.fresh 0 0 led) } }) fun led => ⟨led, rfl, rfl⟩) fun r s₁ hr => ?_
  cases r with
  | error e => exact hr
  | ok fl =>
    cases fl with
    | ret ob =>
      obtain ⟨led, rfl, rfl⟩ := hr
      generalize hso : ({ cls := .type "set", dict := none, data := .set #[] 0 (.fresh 0 0 led) } : Obj) = so
      have hfr : so.isFreed = false := by rw [← hso]; rfl
      have b1 : (s.heap.push so).get? s.heap.objs.size = some so := Heap.get?_push_size _ hfr
      have b2 : Shared.TypeIs { s with heap := s.heap.push so } (.ref s.heap.objs.size) "set" := ⟨_, b1, by rw [← hso]⟩
      have b3 := PySem.F.called_set.init.lookup
      have b4 := PySem.F.called_set.init.bind (.ref s.heap.objs.size)
      repeat (any_goals (first | assumption | wp_step))
      refine codeAny_mono (codeAny_call_builtin (R := wants (fun r s₂ => r = .none ∧ ∃ g tk c, s₂ = { s with heap := g, toks := tk } ∧ Cnt xs xs.length c ∧ g.SetOf (PySem.strKind prog w) s.heap.objs.size (fun y => decide (y ∈ xs.take xs.length)) c ∧
          (∀ b o, b < s.heap.objs.size → s.heap.get? b = some o → g.get? b = some o)) E) PySem.F.called_set.init.plain PySem.F.entry_set_init (check_set_init_1 b2 ?_)) fun r₂ s₂ hr₂ => ?_
      · obtain ⟨ol, hol, hcl, nl, hdl⟩ := hl
        obtain ⟨ocls, odict, odata, oslots⟩ := ol
        simp only at hcl hdl
        subst hcl hdl
        have hol' : (s.heap.push so).get? l = some { cls := .type "list", dict := odict, data := .seq its nl, slots := oslots } := Heap.get?_push_of_some _ hol
        have c1 := PySem.F.sub_list_set
        have c2 := PySem.F.sub_list_frozenset
        have c3 : (Value.type "list" == Value.type "dict") = false := by decide
        have hl1 : (s.heap.push so).IsList l its := ⟨_, hol', rfl, nl, rfl⟩
        unfold Builtin.«set.__init__» noKeywords Builtin.Frozenset.updateFrom
        generalize hPI : pyIter = PI
        have ll : l < s.heap.objs.size := Heap.lt_size hol
        have nI : ∀ ob : Obj, l ≠ (s.heap.push ob).objs.size := fun ob => by
          rw [Heap.size_push]
          exact Nat.ne_of_lt (Nat.lt_succ_of_lt ll)
        have nS : ∀ ob : Obj, s.heap.objs.size ∉ [(s.heap.push ob).objs.size, l] := fun ob => by
          rw [Heap.size_push]
          simp only [List.mem_cons, List.mem_singleton, List.not_mem_nil, or_false, not_or]
          exact ⟨Nat.ne_of_lt (Nat.lt_succ_self _), Nat.ne_of_gt ll⟩
        have nB : ∀ (ob : Obj) (b : Addr), b < s.heap.objs.size → b ≠ (s.heap.push ob).objs.size := fun ob b lb => by
          rw [Heap.size_push]
          exact Nat.ne_of_lt (Nat.lt_succ_of_lt lb)
        subst hso
        wp_walk
        subst hPI
        refine wpAny_pyIter_list hl1 ?_
        refine wpAny_bind (wpAny_runValue ?_)
        have hh3 : A.in1.in1.in1.handled = none := by simp [hh]
        have sz : xs.length = its.size := by rw [← StrsAre.len_eq hi, Array.length_toList]
        have hval : ∀ (i : Nat) (v : Value), its[i]? = some v → ∃ x t, xs[i]? = some x ∧ v = .str x t := fun i v hv => by
          have li : i < xs.length := by
            rw [sz]
            exact (Array.getElem?_eq_some_iff.mp hv).1
          obtain ⟨t, e⟩ := SS.strs_at hi i v (by rw [Array.getElem?_toList]; exact hv)
          refine ⟨xs[i], t, List.getElem?_eq_getElem li, ?_⟩
          rw [e, List.getD_eq_getElem?_getD, List.getElem?_eq_getElem li]
          rfl
        refine fill ((Walks.list hh3 _ l (nI (so led)) its).toS) s.heap.objs.size (nS (so led)) xs sz (by rw [← sz]; exact hb) hval (its.size - 0) 0 _ (by omega) (Nat.zero_le _)
          ⟨⟨_, Heap.get?_push_size _ rfl, rfl, rfl⟩, (hl1.push _)⟩ ?hS0 ?hR
        case hS0 =>
          exact ⟨0, cnt_zero xs, PyProof.Rows.SetOf_congr ((PyProof.Rows.setObjOf_fresh (knd := PySem.strKind prog w) led).setOf (Heap.get?_push_of_some _ b1) (by unfold scanBound; omega)) (fun _ => by simp) rfl⟩
        case hR =>
          intro s' c' hm hc' hS'
          obtain ⟨g, g', d', tk', os'⟩ := s'
          have eg : g' = s.gens := hm.gens
          have ed : d' = s.drawn := hm.drawn
          have eo : os' = s.os := hm.os
          subst eg ed eo
          show wpAny _ _ _ _ _ _
          refine wpAny_pure ?_
          show wpAny _ _ (ret Value.none) _ _ _
          rw [← sz] at hc' hS'
          refine wpAny_pure ⟨rfl, g, tk', c', rfl, hc', hS', fun b o lb e => ?_⟩
          have n1 : b ≠ s.heap.objs.size := Nat.ne_of_lt lb
          have n2 := nB (so led) b lb
          exact hm.heap b o (by simp only [List.mem_cons, List.mem_singleton, List.not_mem_nil, or_false, not_or]; exact ⟨n1, n2⟩) (Heap.get?_push_of_some _ (Heap.get?_push_of_some _ e))
      · cases r₂ with
        | error e => exact hr₂
        | ok fl₂ =>
          cases fl₂ with
          | ret r =>
            obtain ⟨rfl, g, tk, c', rfl, hc', hS', hk'⟩ := hr₂
            repeat (any_goals (first | assumption | wp_step))
            exact q _ _ _ hc' hS' hk'
          | _ => exact hr₂.elim
    | _ => exact hr.elim
end
end Sl
namespace Sl
open PySem PySem.Spec PyProof.Rows L2
section
variable {X : Cx}
def tLen (K : PySem.W.Frag) (ta : TE) : TE := fun σ H Q => ta σ H fun x H1 => ∃ l, ∃ xs : List Str, x = .ref l ∧ SqL K H1 l (xs.map V.str) ∧ xs.length ≤ 4000 ∧ ∀ c, Cnt xs xs.length c → Q (.int (c : Nat)) H1
theorem pe_len {a : Expr} {ta : TE} {p p2 q pos : Pos} (hc : X.calm = true) (hg : Gl X "len") (hm : X.mg "len" = none) (hg2 : Gl X "set") (hm2 : X.mg "set" = none) (ha : PE X a ta)
    (na : starEach [a] X.env = (false, eval a X.env) :: starEach [] X.env := by rfl) : PE X (.Call (.Name "len" p) [.Call (.Name "set" p2) [a] [] q] [] pos) (tLen X.K ta) := by
  refine ⟨fun pins s σ H Q I h => ?_⟩
  refine Call_ (ld_blt I hg hm boot_len ?_)
  refine PyProof.Rows.callWith_builtin1 (PyProof.Rows.args_cons ?_ rfl) rfl rfl
  refine Call_ (ld_blt I hg2 hm2 boot_set ?_)
  refine PyProof.Rows.callWith_type1 (PyProof.Rows.args_cons (thn (ha.run pins s σ H _ I h) fun v s1 ⟨x, H1, I1, r1, q1⟩ => PyProof.Rows.args_nil ?_) na) na rfl
  obtain ⟨l, xs, ev, hq, hl, k⟩ := q1
  subst ev
  cases r1
  obtain ⟨its, r, pl, hz⟩ := I1.list hq
  refine set_strs (I1.ok.hd hc) pl.isList (by simpa using strsAre_of r) (by unfold scanBound; omega) fun g tk c hcn hS hk => ?_
  refine PyProof.Rows.args_nil ?_
  obtain ⟨o, es, ep, t, ho, hex, hd, _, _, _, hf, hn⟩ := hS
  have I2 : Inv X pins σ H1 { s1 with heap := g, toks := tk } := I1.kept fun b o e => hk b o (Heap.lt_size e) e
  have := hcn.1
  refine call_len_set ho hex hd hf (by rw [hn] <;> omega) ⟨.int (c : Nat), H1, I2.tok _, ⟨_, by rw [hn]⟩, k c hcn⟩
end
/-- xs[i], for xs[i] op= e -/
theorem get_list {X : Cx} : PGet X (rIxL X.K) := by
  intro pins s σ H o i ov iv Q I ro ri h
  obtain ⟨p, xs, k, z, rfl, rfl, hq, he, q⟩ := h
  cases ro
  obtain ⟨t, rfl⟩ := ri
  obtain ⟨its, r, pl, hz⟩ := I.list hq
  obtain ⟨j, h1, h2, h3, h4, h5⟩ := atI_get he
  obtain ⟨u, eu, ru⟩ := r.get h2
  have hl := r.length
  have hn := line63
  have fin : EP X pins σ Q u s := ⟨z, H, I, ru, q⟩
  by_cases h0 : 0 ≤ k
  · have hj : k.toNat = j := by
      rw [seqIndex_of h0 h5] at h1
      exact Option.some.inj h1
    exact wpAny_getItem_list pl.isList h0 (by omega) (by rw [hj]; simpa using eu) fin
  · have hj : (k + (its.toArray.size : Int)).toNat = j := by
      rw [seqIndex_neg (by omega) h4] at h1
      rw [List.size_toArray, ← hl]
      exact Option.some.inj h1
    exact wpAny_getItem_list_neg pl.isList (by omega) (by rw [List.size_toArray] <;> omega) (by omega) (by rw [hj]; simpa using eu) fin
end Sl

/-! text[::-1] -/
namespace Rt
open PySem PySem.Spec PyProof.Rows L2
def revS (z : Str) : Str := ⟨z.cps.toList.reverse.toArray⟩
def tRevT (te : TE) : TE := fun σ H Q => te σ H fun x H1 => ∃ z : Str, x = .str z ∧ z.length ≤ sizeLine ∧ Q (.str (revS z)) H1
theorem made_rev (z : Str) (u : Tok) : (⟨((slicePicked z none none (some (-1, u))).filterMap (z.cps[·]?)).toArray⟩ : Str) = revS z := by
  unfold revS
  congr 1
  congr 1
  show (Builtin.Str.strSliceIndices none none (-1) z.length).filterMap (z.cps[·]?) = _
  rw [picked_rev]
  have e : (List.range z.length).map (fun k => z.length - 1 - k) = (List.range z.cps.size).reverse := PySem.W.krv_range _
  rw [e, List.filterMap_reverse]
  congr 1
  refine List.ext_getElem? fun i => ?_
  rw [show z.cps.toList = (List.range z.cps.size).filterMap (z.cps[·]?) from (by
    have h := filterMap_get z.cps (List.range z.cps.size) fun i hi => List.mem_range.mp hi
    rw [h]
    refine List.ext_getElem (by simp) fun j h1 h2 => ?_
    simp at h1 h2
    simp [Array.getD, h1])]
theorem pe_revT {X : Cx} {e : Expr} {te : TE} {k : Nat} {p1 p2 p3 pos : Pos} (he : PE X e te) : PE X (.Subscript e (.Slice none none (some (.UnaryOp .USub (.Constant (.int 1) k p1) p2)) p3) pos) (tRevT te) := by
  refine ⟨fun pins s σ H Q I h => ?_⟩
  refine Subscript_ (thn (he.run pins s σ H _ I h) fun v s1 ⟨x, H1, I1, r1, q1⟩ => ?_)
  obtain ⟨z, ex, hz, q⟩ := q1
  subst ex
  obtain ⟨t, rfl⟩ := r1
  have hst : PO X (some (.UnaryOp .USub (.Constant (.int 1) k p1) p2)) (tPart (tUn (rU fun i => .int (-i)) (tC (.int 1)))) := po_some (pe_un un_neg pe_int)
  refine wpAny_Slice (thn (po_none.run pins s1 σ H1 (fun o H2 => o = none ∧ H2 = H1) I1 ⟨rfl, rfl⟩) fun vl s2 ⟨l, H2, I2, pl, el, e2⟩ => ?_)
  subst el e2
  refine thn (po_none.run pins s2 σ H2 (fun o H3 => o = none ∧ H3 = H2) I2 ⟨rfl, rfl⟩) fun vu s3 ⟨u, H3, I3, pu, eu, e3⟩ => ?_
  subst eu e3
  refine thn (hst.run pins s3 σ H3 (fun o H4 => o = some (-1) ∧ H4 = H3) I3 ⟨1, rfl, -1, rfl, rfl, rfl⟩) fun vs s4 ⟨o, H4, I4, ps, eo, e4⟩ => ?_
  subst eo e4
  have I5 : Inv X pins σ H4 { s4 with heap := s4.heap.push { cls := .type "slice", data := .fields #[vl, vu, vs] } } := I4.kept (t' := s4.toks) fun b ob q => Heap.get?_push_of_some _ q
  obtain ⟨l, rfl, el⟩ := IsPart.raw pl
  obtain ⟨u, rfl, eu⟩ := IsPart.raw pu
  obtain ⟨w, rfl, ew⟩ := IsPart.raw ps
  cases l with
  | some l => cases el
  | none =>
  cases u with
  | some u => cases eu
  | none =>
  cases w with
  | none => cases ew
  | some w =>
  obtain ⟨wi, wt⟩ := w
  have ew : wi = -1 := by simpa using ew
  subst ew
  show wpAny (model X.prog X.w) X.A (subscriptTail e (.Slice none none (some (.UnaryOp .USub (.Constant (.int 1) k p1) p2)) p3) (.str z t) (.ref s4.heap.objs.size)) (EP X pins σ Q) X.xe { s4 with heap := s4.heap.push { cls := .type "slice", data := .fields #[_, _, _] } }
  refine tail_any (ops := [.str z t, .ref s4.heap.objs.size]) (typeIs_str _ z t) (F.slot_str_getitem.lookup) ?_ (by with_unfolding_all rfl)
  refine wpAny_getItem_str_slice (l := none) (u := none) (st := some (-1, wt)) ⟨_, Heap.get?_push_size _ rfl, rfl, rfl⟩ rfl ?_
  show Made.post (.str ⟨((slicePicked z none none (some (-1, wt))).filterMap (z.cps[·]?)).toArray⟩) (EP X pins σ Q) _
  rw [made_rev]
  have hz2 : (revS z).length ≤ sizeLine := by
    show (z.cps.toList.reverse.toArray).size ≤ _
    rw [List.size_toArray, List.length_reverse, Array.length_toList]
    exact hz
  exact ⟨hz2, .str (revS z), H4, I5.tok _, ⟨_, rfl⟩, q⟩
end Rt

/-! f'{x:<4}', f'{x:>2}': a text x in a field of so many signs. -/
namespace Fs
open PySem PySem.Spec PyProof.Rows PySem.W L2 Builtin Builtin.Str Builtin.Float
/-- what a written format asks: to the right or to the left, so many signs -/
structure Asks (sp : Str) (r : Bool) (wd : Nat) : Prop where
  ne : (sp.length == 0) = false
  small : sp.length ≤ sizeLine
  asc : ((sp.cps.toList.drop 1).any (· ≥ 128) || (sp.cps.getD 0 0 ≥ 128 && !([60, 62, 61, 94] : List Nat).contains (sp.cps.getD 1 0))) = false
  back : (sp.cps.back? == some 0) = false
  parse : ∀ name, parseFormatSpec sp.cps.toList name 60 = .ok { fill := 32, align := if r then 62 else 60, width := some wd }
  fits : tooLong wd = false
def txt (r : Bool) (x : Str) (wd : Nat) : Str := if r then Txt.rjust x wd else Txt.ljust x wd
def fOf (r : Bool) (wd : Nat) : FormatSpec := { fill := 32, align := if r then 62 else 60, width := some wd }
theorem field_is {x : Str} {r : Bool} {wd : Nat} (name : String) : strField x (fOf r wd) name = .ok (if wd ≤ x.length then none else some (txt r x wd)) := by
  unfold strField
  have e : strSub x 0 x.length = x := by
    unfold strSub
    simp [Str.length]
  by_cases c : wd ≤ x.length
  · rw [if_pos c]
    cases r <;> simp [fOf, c, pure, Except.pure, bind, Except.bind]
  · rw [if_neg c]
    have c2 : ¬ ((wd : Nat) : Int) ≤ ((x.length : Nat) : Int) := by omega
    cases r <;> simp [fOf, c, c2, pure, Except.pure, bind, Except.bind, e, txt, Txt.ljust, Txt.rjust]
theorem meets_str {sp x : Str} {r : Bool} {wd : Nat} {t u : Tok} (S : Asks sp r wd) (hz : (txt r x wd).length ≤ sizeLine) : Meets («str.__format__» ⟨[.str x t, .str sp u], []⟩) (fun _ R s => ∀ t' k, R (.ok (.ret (.str (txt r x wd) t'))) { s with toks := k }) := by
  apply KPc.meets_of
  intro prog w A s Q E h
  unfold Builtin.«str.__format__»
  refine wpAny_bind (wpAny_of_eq (a := (_, _, _)) rfl ?_)
  refine wpAny_bind (wpAny_of_eq (a := some _) rfl ?_)
  show wpAny _ _ (if (sp.length == 0) = true then _ else _) Q E s
  rw [if_neg (by rw [S.ne]; simp)]
  show wpAny _ _ (if ((sp.cps.toList.drop 1).any (· ≥ 128) || (sp.cps.getD 0 0 ≥ 128 && !([60, 62, 61, 94] : List Nat).contains (sp.cps.getD 1 0))) = true then _ else _) Q E s
  rw [if_neg (by rw [S.asc]; simp)]
  refine wpAny_bind (KXf.cut_str ?_)
  have hp : parseFormatSpec sp.cps.toList "str" 60 = .ok (fOf r wd) := S.parse _
  simp only [hp, S.back]
  simp only [bind, Except.bind, Bool.and_false, Bool.false_eq_true, if_false, show (fOf r wd).width.getD 0 = wd from rfl, S.fits, field_is]
  by_cases c : wd ≤ x.length
  · simp only [c, if_true, pure, Except.pure]
    refine wpAny_bind (wpAny_rule ?_)
    refine KXf.ret_same ?_ h
    unfold txt Txt.ljust Txt.rjust
    have c2 : ((wd : Nat) : Int) ≤ ((x.length : Nat) : Int) := by omega
    cases r <;> simp [c2]
  · simp only [c, if_false, pure, Except.pure]
    exact KXf.ret_text rfl hz h
theorem asks {sp : Str} {r : Bool} {wd : Nat} (a : (sp.length == 0) = false) (b : sp.length ≤ sizeLine) (c : ((sp.cps.toList.drop 1).any (· ≥ 128) || (sp.cps.getD 0 0 ≥ 128 && !([60, 62, 61, 94] : List Nat).contains (sp.cps.getD 1 0))) = false)
    (d : (sp.cps.back? == some 0) = false) (e : ∀ name, parseFormatSpec sp.cps.toList name 60 = .ok (fOf r wd)) (f : tooLong wd = false) : Asks sp r wd := ⟨a, b, c, d, e, f⟩
theorem asks_l4 : Asks "<4" false 4 := asks (by decide) (by decide) (by decide) (by decide) (fun _ => rfl) (by decide)
theorem asks_l5 : Asks "<5" false 5 := asks (by decide) (by decide) (by decide) (by decide) (fun _ => rfl) (by decide)
theorem asks_r2 : Asks ">2" true 2 := asks (by decide) (by decide) (by decide) (by decide) (fun _ => rfl) (by decide)
/-- {x:spec}, x a text -/
def tFmtS (te tp : TE) : TE := fun σ H Q => te σ H fun x H1 => tp σ H1 fun z H2 => ∃ (y sp : Str) (r : Bool) (wd : Nat), x = .str y ∧ z = .str sp ∧ Asks sp r wd ∧ (txt r y wd).length ≤ sizeLine ∧ Q (.str (txt r y wd)) H2
theorem pe_fmtS {X : Cx} {e spec : Expr} {te tp : TE} {pos : Pos} (he : PE X e te) (hp : PE X spec tp) : PE X (.FormattedValue e (-1) (some spec) pos) (tFmtS te tp) := by
  refine ⟨fun pins s σ H Q I h => ?_⟩
  refine wpAny_FormattedValue_spec (thn (he.run pins s σ H _ I h) fun v s1 ⟨x, H1, I1, r1, q1⟩ => thn (hp.run pins s1 σ H1 _ I1 q1) fun u s2 ⟨z, H2, I2, r2, q2⟩ => ?_)
  obtain ⟨y, sp, r, wd, rfl, rfl, S, hz, q⟩ := q2
  obtain ⟨t, rfl⟩ := r1
  obtain ⟨t2, rfl⟩ := r2
  refine ⟨sp, t2, rfl, ?_⟩
  exact KXf.field_str rfl rfl S.ne S.small (fun u => meets_str S hz) fun t' k => ⟨.str (txt r y wd), H2, I2.tok _, ⟨_, rfl⟩, q⟩
end Fs

namespace K47
open PySem L2
def top (i : Nat) : Stmt := PySem.Challenge.pw_wheelchorus_k47_whole_pages_of_who_hides.main.body.getD i (.Pass ⟨0, 0, 0, 0⟩)
abbrev s_is_whole : Stmt := top 8
abbrev s_is_whole_within : Stmt := top 9
abbrev s_is_sequence : Stmt := top 10
abbrev s_is_number : Stmt := top 16
abbrev s_check_number : Stmt := top 17
abbrev s_blocks : Stmt := top 18
abbrev s_row_of : Stmt := top 19
abbrev s_length_of : Stmt := top 20
abbrev s_is_sort : Stmt := top 26
abbrev s_is_box : Stmt := top 27
abbrev s_has_double : Stmt := top 29
abbrev s_are_boxes : Stmt := top 28
abbrev s_check_called : Stmt := top 35
abbrev s_check_sort : Stmt := top 36
abbrev s_check_others : Stmt := top 37
abbrev s_check_wire : Stmt := top 38
abbrev s_check_rounds : Stmt := top 39
abbrev s_check_hear : Stmt := top 40
abbrev s_check_offset : Stmt := top 43
abbrev s_init : Stmt := inClass (top 42) 0
abbrev s_iter : Stmt := inClass (top 42) 1
abbrev s_strokes_of : Stmt := top 44
abbrev s_has_stroke : Stmt := top 46
abbrev s_spoilt_rounds : Stmt := top 47
abbrev s_given_offsets : Stmt := top 48
abbrev s_step_offset : Stmt := top 49
abbrev s_greatest_spoil : Stmt := top 50
abbrev s_spoil_table : Stmt := top 51
abbrev s_best_row : Stmt := top 52
abbrev s_pulls_alone : Stmt := top 53
abbrev s_pulls_behind_shy : Stmt := top 54
abbrev s_plain_pulls_needed : Stmt := top 55
abbrev s_hinit : Stmt := inClass (top 58) 0
abbrev s_hiter : Stmt := inClass (top 58) 1
abbrev s_hlen : Stmt := inClass (top 58) 2
abbrev s_hidden : Stmt := top 59
abbrev s_hiding_of : Stmt := top 60
abbrev s_pulls_on_plain : Stmt := top 61
abbrev s_plain_pulls : Stmt := top 62
abbrev s_pulls_on_shy : Stmt := top 63
abbrev s_check_page : Stmt := top 64
abbrev s_others_of : Stmt := top 65
abbrev s_who_hides : Stmt := top 66
abbrev s_is_hidden_by : Stmt := top 67
abbrev s_first_hidden : Stmt := top 68
abbrev s_hiding_page : Stmt := top 69
abbrev s_open : Stmt := top 71
abbrev s_draw : Stmt := top 72
abbrev s_wwhole : Stmt := top 73
abbrev s_number : Stmt := top 74
abbrev s_sends : Stmt := top 75
abbrev s_wire : Stmt := top 76
abbrev s_line : Stmt := top 77
abbrev s_row_told : Stmt := top 78
abbrev s_law : Stmt := top 79
abbrev nm_is_whole : List Str := ["thing"]
theorem sc_is_whole : FnScope nm_is_whole ["thing"] (defScope s_is_whole) :=
  ⟨rfl, rfl, rfl, by decide +kernel, rfl, by decide +kernel, by decide +kernel⟩
abbrev nm_is_whole_within : List Str := ["thing", "low", "high"]
theorem sc_is_whole_within : FnScope nm_is_whole_within ["thing", "low", "high"] (defScope s_is_whole_within) :=
  ⟨rfl, rfl, rfl, by decide +kernel, rfl, by decide +kernel, by decide +kernel⟩
abbrev nm_is_sequence : List Str := ["thing"]
theorem sc_is_sequence : FnScope nm_is_sequence ["thing"] (defScope s_is_sequence) :=
  ⟨rfl, rfl, rfl, by decide +kernel, rfl, by decide +kernel, by decide +kernel⟩
abbrev nm_is_number : List Str := ["thing", "letter"]
theorem sc_is_number : FnScope nm_is_number ["thing"] (defScope s_is_number) :=
  ⟨rfl, rfl, rfl, by decide +kernel, rfl, by decide +kernel, by decide +kernel⟩
abbrev nm_check_number : List Str := ["thing"]
theorem sc_check_number : FnScope nm_check_number ["thing"] (defScope s_check_number) :=
  ⟨rfl, rfl, rfl, by decide +kernel, rfl, by decide +kernel, by decide +kernel⟩
abbrev nm_blocks : List Str := ["number", "letter"]
theorem sc_blocks : FnScope nm_blocks ["number"] (defScope s_blocks) :=
  ⟨rfl, rfl, rfl, by decide +kernel, rfl, by decide +kernel, by decide +kernel⟩
abbrev nm_row_of : List Str := ["number", "row", "strokes"]
theorem sc_row_of : FnScope nm_row_of ["number"] (defScope s_row_of) :=
  ⟨rfl, rfl, rfl, by decide +kernel, rfl, by decide +kernel, by decide +kernel⟩
abbrev nm_length_of : List Str := ["number", "sizes"]
theorem sc_length_of : FnScope nm_length_of ["number"] (defScope s_length_of) :=
  ⟨rfl, rfl, rfl, by decide +kernel, rfl, by decide +kernel, by decide +kernel⟩
abbrev nm_is_sort : List Str := ["thing"]
theorem sc_is_sort : FnScope nm_is_sort ["thing"] (defScope s_is_sort) :=
  ⟨rfl, rfl, rfl, by decide +kernel, rfl, by decide +kernel, by decide +kernel⟩
abbrev nm_is_box : List Str := ["thing"]
theorem sc_is_box : FnScope nm_is_box ["thing"] (defScope s_is_box) :=
  ⟨rfl, rfl, rfl, by decide +kernel, rfl, by decide +kernel, by decide +kernel⟩
abbrev nm_has_double : List Str := ["boxes", "number", "_"]
theorem sc_has_double : FnScope nm_has_double ["boxes"] (defScope s_has_double) :=
  ⟨rfl, rfl, rfl, by decide +kernel, rfl, by decide +kernel, by decide +kernel⟩
abbrev nm_are_boxes : List Str := ["thing", "least", "most", "box"]
theorem sc_are_boxes : FnScope nm_are_boxes ["thing", "least", "most"] (defScope s_are_boxes) :=
  ⟨rfl, rfl, rfl, by decide +kernel, rfl, by decide +kernel, by decide +kernel⟩
abbrev nm_check_called : List Str := ["number"]
theorem sc_check_called : FnScope nm_check_called ["number"] (defScope s_check_called) :=
  ⟨rfl, rfl, rfl, by decide +kernel, rfl, by decide +kernel, by decide +kernel⟩
abbrev nm_check_sort : List Str := ["sort"]
theorem sc_check_sort : FnScope nm_check_sort ["sort"] (defScope s_check_sort) :=
  ⟨rfl, rfl, rfl, by decide +kernel, rfl, by decide +kernel, by decide +kernel⟩
abbrev nm_check_others : List Str := ["boxes", "number", "other", "_"]
theorem sc_check_others : FnScope nm_check_others ["boxes", "number"] (defScope s_check_others) :=
  ⟨rfl, rfl, rfl, by decide +kernel, rfl, by decide +kernel, by decide +kernel⟩
abbrev nm_check_wire : List Str := ["boxes"]
theorem sc_check_wire : FnScope nm_check_wire ["boxes"] (defScope s_check_wire) :=
  ⟨rfl, rfl, rfl, by decide +kernel, rfl, by decide +kernel, by decide +kernel⟩
abbrev nm_check_rounds : List Str := ["rounds"]
theorem sc_check_rounds : FnScope nm_check_rounds ["rounds"] (defScope s_check_rounds) :=
  ⟨rfl, rfl, rfl, by decide +kernel, rfl, by decide +kernel, by decide +kernel⟩
abbrev nm_check_hear : List Str := ["hear", "rounds"]
theorem sc_check_hear : FnScope nm_check_hear ["hear", "rounds"] (defScope s_check_hear) :=
  ⟨rfl, rfl, rfl, by decide +kernel, rfl, by decide +kernel, by decide +kernel⟩
abbrev nm_check_offset : List Str := ["thing"]
theorem sc_check_offset : FnScope nm_check_offset ["thing"] (defScope s_check_offset) :=
  ⟨rfl, rfl, rfl, by decide +kernel, rfl, by decide +kernel, by decide +kernel⟩
abbrev nm_init : List Str := ["self", "offsets", "offset"]
theorem sc_init : FnScope nm_init ["self", "offsets"] (defScope s_init) :=
  ⟨rfl, rfl, rfl, by decide +kernel, rfl, by decide +kernel, by decide +kernel⟩
abbrev nm_iter : List Str := ["self"]
theorem sc_iter : FnScope nm_iter ["self"] (defScope s_iter) :=
  ⟨rfl, rfl, rfl, by decide +kernel, rfl, by decide +kernel, by decide +kernel⟩
abbrev nm_strokes_of : List Str := ["number", "offset", "sign"]
theorem sc_strokes_of : FnScope nm_strokes_of ["number"] (defScope s_strokes_of) :=
  ⟨rfl, rfl, rfl, by decide +kernel, rfl, by decide +kernel, by decide +kernel⟩
abbrev nm_has_stroke : List Str := ["row", "offset", "rounds"]
theorem sc_has_stroke : FnScope nm_has_stroke ["row", "offset", "rounds"] (defScope s_has_stroke) :=
  ⟨rfl, rfl, rfl, by decide +kernel, rfl, by decide +kernel, by decide +kernel⟩
abbrev nm_spoilt_rounds : List Str := ["number", "offsets", "rounds", "row", "spoilt", "offset", "index"]
theorem sc_spoilt_rounds : FnScope nm_spoilt_rounds ["number", "offsets", "rounds"] (defScope s_spoilt_rounds) :=
  ⟨rfl, rfl, rfl, by decide +kernel, rfl, by decide +kernel, by decide +kernel⟩
abbrev nm_given_offsets : List Str := ["number", "other", "sort", "at", "rounds", "strokes", "end", "offset", "length", "index"]
theorem sc_given_offsets : FnScope nm_given_offsets ["number", "other", "sort", "at", "rounds"] (defScope s_given_offsets) :=
  ⟨rfl, rfl, rfl, by decide +kernel, rfl, by decide +kernel, by decide +kernel⟩
abbrev nm_step_offset : List Str := ["number", "other", "at", "rounds", "row", "other_row", "place", "sign"]
theorem sc_step_offset : FnScope nm_step_offset ["number", "other", "at", "rounds"] (defScope s_step_offset) :=
  ⟨rfl, rfl, rfl, by decide +kernel, rfl, by decide +kernel, by decide +kernel⟩
abbrev nm_greatest_spoil : List Str := ["number", "other", "sort", "rounds", "length", "counts", "at", "offsets"]
theorem sc_greatest_spoil : FnScope nm_greatest_spoil ["number", "other", "sort", "rounds"] (defScope s_greatest_spoil) :=
  ⟨rfl, rfl, rfl, by decide +kernel, rfl, by decide +kernel, by decide +kernel⟩
abbrev nm_spoil_table : List Str := ["number", "boxes", "rounds", "other", "sort"]
theorem sc_spoil_table : FnScope nm_spoil_table ["number", "boxes", "rounds"] (defScope s_spoil_table) :=
  ⟨rfl, rfl, rfl, by decide +kernel, rfl, by decide +kernel, by decide +kernel⟩
abbrev nm_best_row : List Str := ["table", "sort", "best", "row"]
theorem sc_best_row : FnScope nm_best_row ["table", "sort"] (defScope s_best_row) :=
  ⟨rfl, rfl, rfl, by decide +kernel, rfl, by decide +kernel, by decide +kernel⟩
abbrev nm_pulls_alone : List Str := ["table", "rounds", "hear", "plain"]
theorem sc_pulls_alone : FnScope nm_pulls_alone ["table", "rounds", "hear"] (defScope s_pulls_alone) :=
  ⟨rfl, rfl, rfl, by decide +kernel, rfl, by decide +kernel, by decide +kernel⟩
abbrev nm_pulls_behind_shy : List Str := ["table", "rounds", "hear", "shy", "plain"]
theorem sc_pulls_behind_shy : FnScope nm_pulls_behind_shy ["table", "rounds", "hear"] (defScope s_pulls_behind_shy) :=
  ⟨rfl, rfl, rfl, by decide +kernel, rfl, by decide +kernel, by decide +kernel⟩
abbrev nm_plain_pulls_needed : List Str := ["count", "spoilt", "rounds", "hear", "left"]
theorem sc_plain_pulls_needed : FnScope nm_plain_pulls_needed ["count", "spoilt", "rounds", "hear"] (defScope s_plain_pulls_needed) :=
  ⟨rfl, rfl, rfl, by decide +kernel, rfl, by decide +kernel, by decide +kernel⟩
abbrev nm_hinit : List Str := ["self", "number", "box_sort", "pulls"]
theorem sc_hinit : FnScope nm_hinit ["self", "number", "box_sort", "pulls"] (defScope s_hinit) :=
  ⟨rfl, rfl, rfl, by decide +kernel, rfl, by decide +kernel, by decide +kernel⟩
abbrev nm_hiter : List Str := ["self"]
theorem sc_hiter : FnScope nm_hiter ["self"] (defScope s_hiter) :=
  ⟨rfl, rfl, rfl, by decide +kernel, rfl, by decide +kernel, by decide +kernel⟩
abbrev nm_hlen : List Str := ["self"]
theorem sc_hlen : FnScope nm_hlen ["self"] (defScope s_hlen) :=
  ⟨rfl, rfl, rfl, by decide +kernel, rfl, by decide +kernel, by decide +kernel⟩
abbrev nm_hidden : List Str := ["boxes", "number", "sort", "rounds", "hear"]
theorem sc_hidden : FnScope nm_hidden ["boxes", "number", "sort", "rounds", "hear"] (defScope s_hidden) :=
  ⟨rfl, rfl, rfl, by decide +kernel, rfl, by decide +kernel, by decide +kernel⟩
abbrev nm_hiding_of : List Str := ["boxes", "number", "sort", "rounds", "hear", "pulls"]
theorem sc_hiding_of : FnScope nm_hiding_of ["boxes", "number", "sort", "rounds", "hear"] (defScope s_hiding_of) :=
  ⟨rfl, rfl, rfl, by decide +kernel, rfl, by decide +kernel, by decide +kernel⟩
abbrev nm_pulls_on_plain : List Str := ["table", "number", "rounds", "hear", "alone", "behind", "plain", "other", "_", "spoilt", "at"]
theorem sc_pulls_on_plain : FnScope nm_pulls_on_plain ["table", "number", "rounds", "hear"] (defScope s_pulls_on_plain) :=
  ⟨rfl, rfl, rfl, by decide +kernel, rfl, by decide +kernel, by decide +kernel⟩
abbrev nm_plain_pulls : List Str := ["row", "number", "spoilt", "many", "hear", "length", "j"]
theorem sc_plain_pulls : FnScope nm_plain_pulls ["row", "number", "spoilt", "many", "hear"] (defScope s_plain_pulls) :=
  ⟨rfl, rfl, rfl, by decide +kernel, rfl, by decide +kernel, by decide +kernel⟩
abbrev nm_pulls_on_shy : List Str := ["boxes", "number", "rounds", "hear", "shy", "other", "sort", "length", "at", "pulls", "index"]
theorem sc_pulls_on_shy : FnScope nm_pulls_on_shy ["boxes", "number", "rounds", "hear"] (defScope s_pulls_on_shy) :=
  ⟨rfl, rfl, rfl, by decide +kernel, rfl, by decide +kernel, by decide +kernel⟩
abbrev nm_check_page : List Str := ["boxes", "rounds", "hear"]
theorem sc_check_page : FnScope nm_check_page ["boxes", "rounds", "hear"] (defScope s_check_page) :=
  ⟨rfl, rfl, rfl, by decide +kernel, rfl, by decide +kernel, by decide +kernel⟩
abbrev nm_others_of : List Str := ["boxes", "number", "box"]
theorem sc_others_of : FnScope nm_others_of ["boxes", "number"] (defScope s_others_of) :=
  ⟨rfl, rfl, rfl, by decide +kernel, rfl, by decide +kernel, by decide +kernel⟩
abbrev nm_who_hides : List Str := ["boxes", "rounds", "hear", "rows", "number", "sort", "others", "hiding", "alone", "box"]
theorem sc_who_hides : FnScope nm_who_hides ["boxes", "rounds", "hear"] (defScope s_who_hides) :=
  ⟨rfl, rfl, rfl, by decide +kernel, rfl, by decide +kernel, by decide +kernel⟩
abbrev nm_is_hidden_by : List Str := ["box", "number", "sort", "rounds", "hear", "hiding"]
theorem sc_is_hidden_by : FnScope nm_is_hidden_by ["box", "number", "sort", "rounds", "hear"] (defScope s_is_hidden_by) :=
  ⟨rfl, rfl, rfl, by decide +kernel, rfl, by decide +kernel, by decide +kernel⟩
abbrev nm_first_hidden : List Str := ["boxes", "rounds", "hear", "most", "number", "sort", "hiding"]
theorem sc_first_hidden : FnScope nm_first_hidden ["boxes", "rounds", "hear", "most"] (defScope s_first_hidden) :=
  ⟨rfl, rfl, rfl, by decide +kernel, rfl, by decide +kernel, by decide +kernel⟩
abbrev nm_hiding_page : List Str := ["boxes", "rounds", "hear", "lines", "number", "sort", "count", "alone", "told", "names", "other"]
theorem sc_hiding_page : FnScope nm_hiding_page ["boxes", "rounds", "hear"] (defScope s_hiding_page) :=
  ⟨rfl, rfl, rfl, by decide +kernel, rfl, by decide +kernel, by decide +kernel⟩
abbrev nm_open : List Str := ["_law_script"]
theorem sc_open : FnScope nm_open ["_law_script"] (defScope s_open) :=
  ⟨rfl, rfl, rfl, by decide +kernel, rfl, by decide +kernel, by decide +kernel⟩
abbrev nm_draw : List Str := ["_law_state", "_law_many", "_law_cell", "_law_digit"]
theorem sc_draw : FnScope nm_draw ["_law_state", "_law_many"] (defScope s_draw) :=
  ⟨rfl, rfl, rfl, by decide +kernel, rfl, by decide +kernel, by decide +kernel⟩
abbrev nm_wwhole : List Str := ["_law_thing"]
theorem sc_wwhole : FnScope nm_wwhole ["_law_thing"] (defScope s_wwhole) :=
  ⟨rfl, rfl, rfl, by decide +kernel, rfl, by decide +kernel, by decide +kernel⟩
abbrev nm_number : List Str := ["_law_state", "_law_word", "_law_k", "_law_many", "_law_left", "_law_digit"]
theorem sc_number : FnScope nm_number ["_law_state"] (defScope s_number) :=
  ⟨rfl, rfl, rfl, by decide +kernel, rfl, by decide +kernel, by decide +kernel⟩
abbrev nm_sends : List Str := ["_law_state"]
theorem sc_sends : FnScope nm_sends ["_law_state"] (defScope s_sends) :=
  ⟨rfl, rfl, rfl, by decide +kernel, rfl, by decide +kernel, by decide +kernel⟩
abbrev nm_wire : List Str := ["_law_state", "_law_boxes", "_law_k", "_law_word", "_law_box"]
theorem sc_wire : FnScope nm_wire ["_law_state"] (defScope s_wire) :=
  ⟨rfl, rfl, rfl, by decide +kernel, rfl, by decide +kernel, by decide +kernel⟩
abbrev nm_line : List Str := ["_law_row", "_law_words"]
theorem sc_line : FnScope nm_line ["_law_row"] (defScope s_line) :=
  ⟨rfl, rfl, rfl, by decide +kernel, rfl, by decide +kernel, by decide +kernel⟩
abbrev nm_row_told : List Str := ["_law_row", "_law_boxes", "_law_at", "_law_sends_here", "_law_alike", "_law_number_here", "_law_sort", "_law_others", "_law_told", "_law_box", "_law_alone"]
theorem sc_row_told : FnScope nm_row_told ["_law_row", "_law_boxes", "_law_at", "_law_sends_here", "_law_alike"] (defScope s_row_told) :=
  ⟨rfl, rfl, rfl, by decide +kernel, rfl, by decide +kernel, by decide +kernel⟩
abbrev nm_law : List Str := ["_law_script", "_law_state", "_law_boxes", "_law_sends_here", "_law_alike", "_law_rows_told", "_law_at", "_law_page", "_law_row", "_law_bound", "_law_told", "_law_fit", "_law_others", "_law_box", "_law_again"]
theorem sc_law : FnScope nm_law ["_law_script"] (defScope s_law) :=
  ⟨rfl, rfl, rfl, by decide +kernel, rfl, by decide +kernel, by decide +kernel⟩
structure Txt (K : PySem.W.Frag) (mg : Str → Option Value) where
  C : Addr
  W : Addr
  HC : Addr
  tE : Addr
  gC : mg "Strokes" = some (.ref C)
  clC : Cls K C
  nO : NoAttr K C "offsets"
  gW : mg "Town" = some (.ref W)
  clW : Cls K W
  gHC : mg "Hiding" = some (.ref HC)
  clHC : Cls K HC
  nN : NoAttr K HC "number"
  nB : NoAttr K HC "box_sort"
  nP : NoAttr K HC "pulls"
  isiHC : SlX.SIsi K HC
  kSHC : PySem.W.kitOne K (.ref HC) (.ref HC) = some true
  mc : Value
  rd : ClX.CRead K W mc
  uP : Value
  uS : Value
  vP : ClX.CVal K W mc "PLAIN" (.str "plain") uP
  vS : ClX.CVal K W mc "SHY" (.str "shy") uS
  CN : Addr
  fN : Addr
  low : PySem.LowX.LowTxt K mg CN fN
  eT : ∃ o n, K.lookup tE = some o ∧ o.cls = .type "tuple" ∧ o.data = .seq #[] n
  a_is_whole : Addr
  d_is_whole : FuncData
  F_is_whole : Fun K "is_whole" "is_whole" s_is_whole a_is_whole d_is_whole
  b_is_whole : Binds K d_is_whole ["thing"] []
  g_is_whole : mg "is_whole" = some (.ref a_is_whole)
  a_is_whole_within : Addr
  d_is_whole_within : FuncData
  F_is_whole_within : Fun K "is_whole_within" "is_whole_within" s_is_whole_within a_is_whole_within d_is_whole_within
  b_is_whole_within : Binds K d_is_whole_within ["thing", "low", "high"] []
  g_is_whole_within : mg "is_whole_within" = some (.ref a_is_whole_within)
  a_is_sequence : Addr
  d_is_sequence : FuncData
  F_is_sequence : Fun K "is_sequence" "is_sequence" s_is_sequence a_is_sequence d_is_sequence
  b_is_sequence : Binds K d_is_sequence ["thing"] []
  g_is_sequence : mg "is_sequence" = some (.ref a_is_sequence)
  a_is_number : Addr
  d_is_number : FuncData
  F_is_number : Fun K "is_number" "is_number" s_is_number a_is_number d_is_number
  b_is_number : Binds K d_is_number ["thing"] []
  g_is_number : mg "is_number" = some (.ref a_is_number)
  a_check_number : Addr
  d_check_number : FuncData
  F_check_number : Fun K "check_number" "check_number" s_check_number a_check_number d_check_number
  b_check_number : Binds K d_check_number ["thing"] []
  g_check_number : mg "check_number" = some (.ref a_check_number)
  a_blocks : Addr
  d_blocks : FuncData
  F_blocks : Fun K "blocks" "blocks" s_blocks a_blocks d_blocks
  b_blocks : Binds K d_blocks ["number"] []
  g_blocks : mg "blocks" = some (.ref a_blocks)
  a_row_of : Addr
  d_row_of : FuncData
  F_row_of : Fun K "row_of" "row_of" s_row_of a_row_of d_row_of
  b_row_of : Binds K d_row_of ["number"] []
  g_row_of : mg "row_of" = some (.ref a_row_of)
  a_length_of : Addr
  d_length_of : FuncData
  F_length_of : Fun K "length_of" "length_of" s_length_of a_length_of d_length_of
  b_length_of : Binds K d_length_of ["number"] []
  g_length_of : mg "length_of" = some (.ref a_length_of)
  a_is_sort : Addr
  d_is_sort : FuncData
  F_is_sort : Fun K "is_sort" "is_sort" s_is_sort a_is_sort d_is_sort
  b_is_sort : Binds K d_is_sort ["thing"] []
  g_is_sort : mg "is_sort" = some (.ref a_is_sort)
  a_is_box : Addr
  d_is_box : FuncData
  F_is_box : Fun K "is_box" "is_box" s_is_box a_is_box d_is_box
  b_is_box : Binds K d_is_box ["thing"] []
  g_is_box : mg "is_box" = some (.ref a_is_box)
  a_has_double : Addr
  d_has_double : FuncData
  F_has_double : Fun K "has_double" "has_double" s_has_double a_has_double d_has_double
  b_has_double : Binds K d_has_double ["boxes"] []
  g_has_double : mg "has_double" = some (.ref a_has_double)
  a_are_boxes : Addr
  d_are_boxes : FuncData
  F_are_boxes : Fun K "are_boxes" "are_boxes" s_are_boxes a_are_boxes d_are_boxes
  b_are_boxes : Binds K d_are_boxes ["thing", "least", "most"] []
  g_are_boxes : mg "are_boxes" = some (.ref a_are_boxes)
  a_check_called : Addr
  d_check_called : FuncData
  F_check_called : Fun K "check_called" "check_called" s_check_called a_check_called d_check_called
  b_check_called : Binds K d_check_called ["number"] []
  g_check_called : mg "check_called" = some (.ref a_check_called)
  a_check_sort : Addr
  d_check_sort : FuncData
  F_check_sort : Fun K "check_sort" "check_sort" s_check_sort a_check_sort d_check_sort
  b_check_sort : Binds K d_check_sort ["sort"] []
  g_check_sort : mg "check_sort" = some (.ref a_check_sort)
  a_check_others : Addr
  d_check_others : FuncData
  F_check_others : Fun K "check_others" "check_others" s_check_others a_check_others d_check_others
  b_check_others : Binds K d_check_others ["boxes", "number"] []
  g_check_others : mg "check_others" = some (.ref a_check_others)
  a_check_wire : Addr
  d_check_wire : FuncData
  F_check_wire : Fun K "check_wire" "check_wire" s_check_wire a_check_wire d_check_wire
  b_check_wire : Binds K d_check_wire ["boxes"] []
  g_check_wire : mg "check_wire" = some (.ref a_check_wire)
  a_check_rounds : Addr
  d_check_rounds : FuncData
  F_check_rounds : Fun K "check_rounds" "check_rounds" s_check_rounds a_check_rounds d_check_rounds
  b_check_rounds : Binds K d_check_rounds ["rounds"] []
  g_check_rounds : mg "check_rounds" = some (.ref a_check_rounds)
  a_check_hear : Addr
  d_check_hear : FuncData
  F_check_hear : Fun K "check_hear" "check_hear" s_check_hear a_check_hear d_check_hear
  b_check_hear : Binds K d_check_hear ["hear", "rounds"] []
  g_check_hear : mg "check_hear" = some (.ref a_check_hear)
  a_check_offset : Addr
  d_check_offset : FuncData
  F_check_offset : Fun K "check_offset" "check_offset" s_check_offset a_check_offset d_check_offset
  b_check_offset : Binds K d_check_offset ["thing"] []
  g_check_offset : mg "check_offset" = some (.ref a_check_offset)
  a_init : Addr
  d_init : FuncData
  F_init : FunD K "__init__" "Strokes.__init__" (defArgs s_init) (defBody s_init) (defScope s_init) [V.ref tE] [] a_init d_init
  b_init : Binds K d_init ["self", "offsets"] []
  mk_init : Mk K C a_init
  a_iter : Addr
  d_iter : FuncData
  F_iter : Fun K "__iter__" "Strokes.__iter__" s_iter a_iter d_iter
  b_iter : Binds K d_iter ["self"] []
  m_iter : Meth K C "__iter__" a_iter
  a_strokes_of : Addr
  d_strokes_of : FuncData
  F_strokes_of : Fun K "strokes_of" "strokes_of" s_strokes_of a_strokes_of d_strokes_of
  b_strokes_of : Binds K d_strokes_of ["number"] []
  g_strokes_of : mg "strokes_of" = some (.ref a_strokes_of)
  a_has_stroke : Addr
  d_has_stroke : FuncData
  F_has_stroke : Fun K "has_stroke" "has_stroke" s_has_stroke a_has_stroke d_has_stroke
  b_has_stroke : Binds K d_has_stroke ["row", "offset", "rounds"] []
  g_has_stroke : mg "has_stroke" = some (.ref a_has_stroke)
  a_spoilt_rounds : Addr
  d_spoilt_rounds : FuncData
  F_spoilt_rounds : Fun K "spoilt_rounds" "spoilt_rounds" s_spoilt_rounds a_spoilt_rounds d_spoilt_rounds
  b_spoilt_rounds : Binds K d_spoilt_rounds ["number", "offsets", "rounds"] []
  g_spoilt_rounds : mg "spoilt_rounds" = some (.ref a_spoilt_rounds)
  a_given_offsets : Addr
  d_given_offsets : FuncData
  F_given_offsets : Fun K "given_offsets" "given_offsets" s_given_offsets a_given_offsets d_given_offsets
  b_given_offsets : Binds K d_given_offsets ["number", "other", "sort", "at", "rounds"] []
  g_given_offsets : mg "given_offsets" = some (.ref a_given_offsets)
  a_step_offset : Addr
  d_step_offset : FuncData
  F_step_offset : Fun K "step_offset" "step_offset" s_step_offset a_step_offset d_step_offset
  b_step_offset : Binds K d_step_offset ["number", "other", "at", "rounds"] []
  g_step_offset : mg "step_offset" = some (.ref a_step_offset)
  a_greatest_spoil : Addr
  d_greatest_spoil : FuncData
  F_greatest_spoil : Fun K "greatest_spoil" "greatest_spoil" s_greatest_spoil a_greatest_spoil d_greatest_spoil
  b_greatest_spoil : Binds K d_greatest_spoil ["number", "other", "sort", "rounds"] []
  g_greatest_spoil : mg "greatest_spoil" = some (.ref a_greatest_spoil)
  a_spoil_table : Addr
  d_spoil_table : FuncData
  F_spoil_table : Fun K "spoil_table" "spoil_table" s_spoil_table a_spoil_table d_spoil_table
  g_spoil_table : mg "spoil_table" = some (.ref a_spoil_table)
  a_best_row : Addr
  d_best_row : FuncData
  F_best_row : Fun K "best_row" "best_row" s_best_row a_best_row d_best_row
  b_best_row : Binds K d_best_row ["table", "sort"] []
  g_best_row : mg "best_row" = some (.ref a_best_row)
  a_pulls_alone : Addr
  d_pulls_alone : FuncData
  F_pulls_alone : Fun K "pulls_alone" "pulls_alone" s_pulls_alone a_pulls_alone d_pulls_alone
  b_pulls_alone : Binds K d_pulls_alone ["table", "rounds", "hear"] []
  g_pulls_alone : mg "pulls_alone" = some (.ref a_pulls_alone)
  a_pulls_behind_shy : Addr
  d_pulls_behind_shy : FuncData
  F_pulls_behind_shy : Fun K "pulls_behind_shy" "pulls_behind_shy" s_pulls_behind_shy a_pulls_behind_shy d_pulls_behind_shy
  b_pulls_behind_shy : Binds K d_pulls_behind_shy ["table", "rounds", "hear"] []
  g_pulls_behind_shy : mg "pulls_behind_shy" = some (.ref a_pulls_behind_shy)
  a_plain_pulls_needed : Addr
  d_plain_pulls_needed : FuncData
  F_plain_pulls_needed : Fun K "plain_pulls_needed" "plain_pulls_needed" s_plain_pulls_needed a_plain_pulls_needed d_plain_pulls_needed
  b_plain_pulls_needed : Binds K d_plain_pulls_needed ["count", "spoilt", "rounds", "hear"] []
  g_plain_pulls_needed : mg "plain_pulls_needed" = some (.ref a_plain_pulls_needed)
  a_hinit : Addr
  d_hinit : FuncData
  F_hinit : Fun K "__init__" "Hiding.__init__" s_hinit a_hinit d_hinit
  b_hinit : Binds K d_hinit ["self", "number", "box_sort", "pulls"] []
  mk_hinit : Mk K HC a_hinit
  a_hiter : Addr
  d_hiter : FuncData
  F_hiter : Fun K "__iter__" "Hiding.__iter__" s_hiter a_hiter d_hiter
  b_hiter : Binds K d_hiter ["self"] []
  m_hiter : Meth K HC "__iter__" a_hiter
  a_hlen : Addr
  d_hlen : FuncData
  F_hlen : Fun K "__len__" "Hiding.__len__" s_hlen a_hlen d_hlen
  b_hlen : Binds K d_hlen ["self"] []
  m_hlen : Meth K HC "__len__" a_hlen
  a_hidden : Addr
  d_hidden : FuncData
  F_hidden : FunD K "hidden" "hidden" (defArgs s_hidden) (defBody s_hidden) (defScope s_hidden) [] [("hear", V.int 1)] a_hidden d_hidden
  g_hidden : mg "hidden" = some (.ref a_hidden)
  a_hiding_of : Addr
  d_hiding_of : FuncData
  F_hiding_of : Fun K "hiding_of" "hiding_of" s_hiding_of a_hiding_of d_hiding_of
  b_hiding_of : Binds K d_hiding_of ["boxes", "number", "sort", "rounds", "hear"] []
  g_hiding_of : mg "hiding_of" = some (.ref a_hiding_of)
  a_pulls_on_plain : Addr
  d_pulls_on_plain : FuncData
  F_pulls_on_plain : Fun K "pulls_on_plain" "pulls_on_plain" s_pulls_on_plain a_pulls_on_plain d_pulls_on_plain
  b_pulls_on_plain : Binds K d_pulls_on_plain ["table", "number", "rounds", "hear"] []
  g_pulls_on_plain : mg "pulls_on_plain" = some (.ref a_pulls_on_plain)
  a_plain_pulls : Addr
  d_plain_pulls : FuncData
  F_plain_pulls : Fun K "plain_pulls" "plain_pulls" s_plain_pulls a_plain_pulls d_plain_pulls
  b_plain_pulls : Binds K d_plain_pulls ["row", "number", "spoilt", "many", "hear"] []
  g_plain_pulls : mg "plain_pulls" = some (.ref a_plain_pulls)
  a_pulls_on_shy : Addr
  d_pulls_on_shy : FuncData
  F_pulls_on_shy : Fun K "pulls_on_shy" "pulls_on_shy" s_pulls_on_shy a_pulls_on_shy d_pulls_on_shy
  b_pulls_on_shy : Binds K d_pulls_on_shy ["boxes", "number", "rounds", "hear"] []
  g_pulls_on_shy : mg "pulls_on_shy" = some (.ref a_pulls_on_shy)
  a_check_page : Addr
  d_check_page : FuncData
  F_check_page : Fun K "check_page" "check_page" s_check_page a_check_page d_check_page
  b_check_page : Binds K d_check_page ["boxes", "rounds", "hear"] []
  g_check_page : mg "check_page" = some (.ref a_check_page)
  a_others_of : Addr
  d_others_of : FuncData
  F_others_of : Fun K "others_of" "others_of" s_others_of a_others_of d_others_of
  b_others_of : Binds K d_others_of ["boxes", "number"] []
  g_others_of : mg "others_of" = some (.ref a_others_of)
  a_who_hides : Addr
  d_who_hides : FuncData
  F_who_hides : FunD K "who_hides" "who_hides" (defArgs s_who_hides) (defBody s_who_hides) (defScope s_who_hides) [] [("hear", V.int 1)] a_who_hides d_who_hides
  g_who_hides : mg "who_hides" = some (.ref a_who_hides)
  a_is_hidden_by : Addr
  d_is_hidden_by : FuncData
  F_is_hidden_by : Fun K "is_hidden_by" "is_hidden_by" s_is_hidden_by a_is_hidden_by d_is_hidden_by
  b_is_hidden_by : Binds K d_is_hidden_by ["box", "number", "sort", "rounds", "hear"] []
  g_is_hidden_by : mg "is_hidden_by" = some (.ref a_is_hidden_by)
  a_first_hidden : Addr
  d_first_hidden : FuncData
  F_first_hidden : FunD K "first_hidden" "first_hidden" (defArgs s_first_hidden) (defBody s_first_hidden) (defScope s_first_hidden) [] [("hear", V.int 1)] a_first_hidden d_first_hidden
  g_first_hidden : mg "first_hidden" = some (.ref a_first_hidden)
  a_hiding_page : Addr
  d_hiding_page : FuncData
  F_hiding_page : FunD K "hiding_page" "hiding_page" (defArgs s_hiding_page) (defBody s_hiding_page) (defScope s_hiding_page) [] [("hear", V.int 1)] a_hiding_page d_hiding_page
  g_hiding_page : mg "hiding_page" = some (.ref a_hiding_page)
  a_open : Addr
  d_open : FuncData
  F_open : Fun K "_law_open" "_law_open" s_open a_open d_open
  b_open : Binds K d_open ["_law_script"] []
  g_open : mg "_law_open" = some (.ref a_open)
  a_draw : Addr
  d_draw : FuncData
  F_draw : Fun K "_law_draw" "_law_draw" s_draw a_draw d_draw
  b_draw : Binds K d_draw ["_law_state", "_law_many"] []
  g_draw : mg "_law_draw" = some (.ref a_draw)
  a_wwhole : Addr
  d_wwhole : FuncData
  F_wwhole : Fun K "_law_whole" "_law_whole" s_wwhole a_wwhole d_wwhole
  b_wwhole : Binds K d_wwhole ["_law_thing"] []
  g_wwhole : mg "_law_whole" = some (.ref a_wwhole)
  a_number : Addr
  d_number : FuncData
  F_number : Fun K "_law_number" "_law_number" s_number a_number d_number
  b_number : Binds K d_number ["_law_state"] []
  g_number : mg "_law_number" = some (.ref a_number)
  a_sends : Addr
  d_sends : FuncData
  F_sends : Fun K "_law_sends" "_law_sends" s_sends a_sends d_sends
  b_sends : Binds K d_sends ["_law_state"] []
  g_sends : mg "_law_sends" = some (.ref a_sends)
  a_wire : Addr
  d_wire : FuncData
  F_wire : Fun K "_law_wire" "_law_wire" s_wire a_wire d_wire
  b_wire : Binds K d_wire ["_law_state"] []
  g_wire : mg "_law_wire" = some (.ref a_wire)
  a_line : Addr
  d_line : FuncData
  F_line : Fun K "_law_line" "_law_line" s_line a_line d_line
  b_line : Binds K d_line ["_law_row"] []
  g_line : mg "_law_line" = some (.ref a_line)
  a_row_told : Addr
  d_row_told : FuncData
  F_row_told : Fun K "_law_row_told" "_law_row_told" s_row_told a_row_told d_row_told
  b_row_told : Binds K d_row_told ["_law_row", "_law_boxes", "_law_at", "_law_sends_here", "_law_alike"] []
  g_row_told : mg "_law_row_told" = some (.ref a_row_told)
  a_law : Addr
  d_law : FuncData
  F_law : Fun K "law" "law" s_law a_law d_law
  b_law : Binds K d_law ["_law_script"] []
  g_law : mg "law" = some (.ref a_law)
  t_DIGITS : Tok
  c_DIGITS : mg "DIGITS" = some (.str "123456789" t_DIGITS)
  t_MOST_DIGITS : Tok
  c_MOST_DIGITS : mg "MOST_DIGITS" = some (.int 4 t_MOST_DIGITS)
  t_GREATEST_SUM : Tok
  c_GREATEST_SUM : mg "GREATEST_SUM" = some (.int 24 t_GREATEST_SUM)
  t_CLOSED_END : Tok
  c_CLOSED_END : mg "CLOSED_END" = some (.int 5 t_CLOSED_END)
  t_MOST_ROUNDS : Tok
  c_MOST_ROUNDS : mg "MOST_ROUNDS" = some (.int 8 t_MOST_ROUNDS)
  t_MOST_ON_WIRE : Tok
  c_MOST_ON_WIRE : mg "MOST_ON_WIRE" = some (.int 30 t_MOST_ON_WIRE)
  t_WAIT : Tok
  c_WAIT : mg "WAIT" = some (.int 3 t_WAIT)
  z_abs : mg "abs" = none
  z_all : mg "all" = none
  z_bool : mg "bool" = none
  z_enumerate : mg "enumerate" = none
  z_int : mg "int" = none
  z_isinstance : mg "isinstance" = none
  z_iter : mg "iter" = none
  z_len : mg "len" = none
  z_list : mg "list" = none
  z_max : mg "max" = none
  z_min : mg "min" = none
  z_range : mg "range" = none
  z_set : mg "set" = none
  z_sorted : mg "sorted" = none
  z_str : mg "str" = none
  z_sum : mg "sum" = none
  z_tuple : mg "tuple" = none
  aIt : PySem.W.findIn K (.ref C) "__iter__" = some (some (.ref a_iter))
  iIt : PySem.W.isFn K (.ref a_iter) = true
  ds0 : List Value
  kb_spoil_table : KBn K d_spoil_table ["number", "boxes", "rounds"] 2 ["rounds"] (fun us ws => us ++ ws) (fun vs zs => vs ++ zs)
  aHIt : PySem.W.findIn K (.ref HC) "__iter__" = some (some (.ref a_hiter))
  iHIt : PySem.W.isFn K (.ref a_hiter) = true
  aHLen : PySem.W.findIn K (.ref HC) "__len__" = some (some (.ref a_hlen))
  iHLen : PySem.W.isFn K (.ref a_hlen) = true
  kb2_hidden : KBn K d_hidden ["boxes", "number", "sort", "rounds", "hear"] 3 ["rounds", "hear"] (fun us ws => us ++ ws) (fun vs zs => vs ++ zs)
  mvW : List Value
  kb1_who_hides : KBn K d_who_hides ["boxes", "rounds", "hear"] 1 ["rounds"] (fun us ws => us ++ ws ++ mvW) (fun vs zs => vs ++ zs ++ [V.int 1])
  kb2_who_hides : KBn K d_who_hides ["boxes", "rounds", "hear"] 1 ["rounds", "hear"] (fun us ws => us ++ ws) (fun vs zs => vs ++ zs)
  mvP : List Value
  kb1_hiding_page : KBn K d_hiding_page ["boxes", "rounds", "hear"] 1 ["rounds"] (fun us ws => us ++ ws ++ mvP) (fun vs zs => vs ++ zs ++ [V.int 1])
  kb2_hiding_page : KBn K d_hiding_page ["boxes", "rounds", "hear"] 1 ["rounds", "hear"] (fun us ws => us ++ ws) (fun vs zs => vs ++ zs)
  mvF : List Value
  kb2_first_hidden : KBn K d_first_hidden ["boxes", "rounds", "hear", "most"] 1 ["rounds", "most"] (fun us ws => us ++ ws.take 1 ++ mvF ++ ws.drop 1) (fun vs zs => vs ++ zs.take 1 ++ [V.int 1] ++ zs.drop 1)
  kb3_first_hidden : KBn K d_first_hidden ["boxes", "rounds", "hear", "most"] 1 ["rounds", "hear", "most"] (fun us ws => us ++ ws) (fun vs zs => vs ++ zs)
end K47

namespace K47
open PySem L2 Wm TL Dv
/-- the offsets of strokes: rising, none below 0 -/
structure Off (ns : List Int) : Prop where
  up : ns.Pairwise (· < ·)
  lo : ∀ n ∈ ns, 0 ≤ n
  few : ns.length < 1000
def offD (ns : List Int) : PyData := .tuple (ns.map PyData.int)
/-- an instance of Strokes that holds ns -/
def StrAt (K : PySem.W.Frag) (C : Addr) (H : Hp) (p : Addr) (ns : List Int) : Prop :=
  ∃ dx fs q, H p = some (.ins C dx fs) ∧ fs.lookup ("offsets" : Str) = some (.ref q) ∧ (∀ m : Str, m ≠ "offsets" → fs.lookup m = none) ∧ SqT K H q (ns.map V.int)
/-- the members of a list, each once, rising -/
def IsSort (xs ns : List Int) : Prop := ns.Pairwise (· < ·) ∧ ∀ k, k ∈ ns ↔ k ∈ xs
theorem up_eq : ∀ {a b : List Int}, a.Pairwise (· < ·) → b.Pairwise (· < ·) → (∀ k, k ∈ a ↔ k ∈ b) → a = b
  | [], [], _, _, _ => rfl
  | [], y :: b, _, _, h => absurd ((h y).mpr List.mem_cons_self) (by simp)
  | x :: a, [], _, _, h => absurd ((h x).mp List.mem_cons_self) (by simp)
  | x :: a, y :: b, ha, hb, h => by
    rw [List.pairwise_cons] at ha hb
    have e : x = y := by
      rcases List.mem_cons.mp ((h x).mp List.mem_cons_self) with z | z
      · exact z
      · rcases List.mem_cons.mp ((h y).mpr List.mem_cons_self) with v | v
        · exact v.symm
        · have := hb.1 x z
          have := ha.1 y v
          omega
    subst e
    congr 1
    refine up_eq ha.2 hb.2 fun k => ⟨fun m => ?_, fun m => ?_⟩
    · rcases List.mem_cons.mp ((h k).mp (List.mem_cons_of_mem _ m)) with z | z
      · have := ha.1 k m
        omega
      · exact z
    · rcases List.mem_cons.mp ((h k).mpr (List.mem_cons_of_mem _ m)) with z | z
      · have := hb.1 k m
        omega
      · exact z
/-- what may be asked whether it is a whole number, and which -/
inductive Thing (K : PySem.W.Frag) (H : Hp) : V → Option Int → Prop
  | int (i : Int) : Thing K H (.int i) (some i)
  | bl (b : Bool) : Thing K H (.bl b) none
  | str (s : Str) : Thing K H (.str s) none
  | non : Thing K H .non none
  | seq (t : Bool) {p : Addr} {xs : List V} (h : Kd.Is K t H p xs) : Thing K H (.ref p) none
/-- an error of the class at C is on its way, with x -/
def Er (C : Addr) (E : XK) (H : Hp) (x : V) : Prop := ∀ H' d, Same H H' → H' d = some (.xd [(("number" : Str), x)]) → E (.ref C) (some d) H'
theorem Er.after {C : Addr} {E : XK} {H H1 : Hp} {x : V} (h : Er C E H x) (s : Same H H1) : Er C E H1 x := fun H' d s' e => h H' d (s.trans s') e
def sp_is_whole (K : PySem.W.Frag) : Sp := fun vs H Q _ => ∃ (x : V) (o : Option Int), vs = [x] ∧ Thing K H x o ∧ Q (.bl o.isSome) H
def sp_check_offset (K : PySem.W.Frag) : Sp := fun vs H Q _ => ∃ i : Int, vs = [.int i] ∧ 0 ≤ i ∧ Q .non H
def sp_init (K : PySem.W.Frag) (C : Addr) : Sp := fun vs H Q _ => ∃ (p dx : Addr) (x : Addr) (t : Bool) (xs : List Int), vs = [.ref p, .ref x] ∧ H p = some (.ins C dx []) ∧ Kd.Is K t H x (xs.map V.int) ∧ (∀ n ∈ xs, 0 ≤ n) ∧ xs.length < 2000 ∧
  ∀ H' ns, (∀ q o, q ≠ p → H q = some o → H' q = some o) → IsSort xs ns → ns.length ≤ xs.length → StrAt K C H' p ns → Q .non H'
def iterAt (K : PySem.W.Frag) (C p q : Addr) (ns : List Int) (H : Hp) : Prop := ∃ (dx : Addr) (fs : List (Str × V)), H p = some (.ins C dx fs) ∧ fs.lookup ("offsets" : Str) = some (.ref q) ∧ SqT K H q (ns.map V.int)
def sp_iter (K : PySem.W.Frag) (C : Addr) : Sp := fun vs H Q _ => ∃ (p q : Addr) (ns : List Int), vs = [.ref p] ∧ iterAt K C p q ns H ∧ ∀ it, H it = none → (∀ b o, H b = some o → b < it) → Q (.ref it) (upd H it (Li.TiO q it))
def spA_iter (K : PySem.W.Frag) (C : Addr) (n : Nat) : Sp := fun vs H Q _ => ∃ (p q : Addr) (ns : List Int), vs = [.ref p] ∧ iterAt K C p q ns H ∧ ∀ it, H it = none → n ≤ it → Q (.ref it) (upd H it (Li.TiO q it))
def sp_is_number (K : PySem.W.Frag) : Sp := fun vs H Q _ => ∃ x d, vs = [x] ∧ Ob K H x d ∧ ∀ H' b, Same H H' → (b = true ↔ IsN x) → Q (.bl b) H'
def sp_check_number (K : PySem.W.Frag) (C : Addr) : Sp := fun vs H Q E => ∃ x d, vs = [x] ∧ Ob K H x d ∧ (IsN x → ∀ H', Same H H' → Q .non H') ∧ (¬ IsN x → Er C E H x)
def sp_blocks (K : PySem.W.Frag) (C : Addr) : Sp := fun vs H Q E => ∃ x d, vs = [x] ∧ Ob K H x d ∧
  (∀ ds, Num ds → x = .str (numS ds) → ∀ H' p, Same H H' → H p = none → H' p = some (.tup (ds.map fun (d : Nat) => V.int (d : Int))) → Q (.ref p) H') ∧ (¬ IsN x → Er C E H x)
def sp_row_of (K : PySem.W.Frag) (C : Addr) : Sp := fun vs H Q E => ∃ x d, vs = [x] ∧ Ob K H x d ∧
  (∀ ds, Num ds → x = .str (numS ds) → ∀ H' p, Same H H' → H p = none → H' p = some (.tup ((rowL ds).map V.int)) → Q (.ref p) H') ∧ (¬ IsN x → Er C E H x)
def sp_length_of (K : PySem.W.Frag) (C : Addr) : Sp := fun vs H Q E => ∃ x d, vs = [x] ∧ Ob K H x d ∧
  (∀ ds, Num ds → x = .str (numS ds) → ∀ H', Same H H' → Q (.int ((rowL ds).length : Nat)) H') ∧ (¬ IsN x → Er C E H x)
def sp_strokes_of (K : PySem.W.Frag) (C CN : Addr) : Sp := fun vs H Q E => ∃ x d, vs = [x] ∧ Ob K H x d ∧
  (∀ ds, Num ds → x = .str (numS ds) → ∀ H' p, Same H H' → H p = none → StrAt K C H' p (SI ds) → Q (.ref p) H') ∧ (¬ IsN x → Er CN E H x)
def sp_is_whole_within (K : PySem.W.Frag) : Sp := fun vs H Q _ => ∃ i lo hi : Int, vs = [.int i, .int lo, .int hi] ∧ Q (.bl (decide (lo ≤ i) && decide (i ≤ hi))) H
/-- so many rows, one behind the other -/
def repL (ds : List Nat) (n : Nat) : List Int := (List.replicate n (rowL ds)).flatten
/-- a stroke there -/
def hasL (xs : List Int) (o : Int) : Bool := decide (0 ≤ o) && (decide (o < (xs.length : Nat)) && decide (xs[o.toNat]? = some 1))
def hasB (ds : List Nat) (n : Nat) (o : Int) : Bool := hasL (repL ds n) o
def sLn (ds : List Nat) : Int := ((rowL ds).length : Nat)
/-- the offsets of the other's strokes -/
def offL (es : List Nat) (n : Nat) (at' : Int) : List Int := (List.range n).flatMap fun (a : Nat) => (SI es).map fun k => at' + (a : Int) * sLn es + k
/-- the shy other box meets there a stroke that it doesn't have -/
def endC (ds es : List Nat) (n : Nat) (at' : Int) (j : Nat) : Bool := decide ((rowL es)[j]? = some 0) && hasB ds n (at' + (j : Int))
/-- the place at which it steps back -/
def endJ (ds es : List Nat) (n : Nat) (at' : Int) : Nat := ((List.range (rowL es).length).find? (endC ds es n at')).getD (rowL es).length
def endO (ds es : List Nat) (n : Nat) (at' : Int) : Int := at' + (endJ ds es n at' : Int)
/-- the offsets of its strokes -/
def shyL (ds es : List Nat) (n : Nat) (at' : Int) : List Int := ((SI es).map fun k => at' + k).filter fun o => decide (o < endO ds es n at')
/-- the rounds in whose window such an offset is that isn't the row's own -/
def keyB (ds : List Nat) (n : Nat) (os : List Int) (i : Int) : Bool := os.any fun o => !hasB ds n o && (decide (o / sLn ds = i) || decide ((o + 5) / sLn ds = i))
def keyL (ds : List Nat) (n : Nat) (os : List Int) : List Int := ((List.range n).map fun (i : Nat) => (i : Int)).filter (keyB ds n os)
/-- the same by windows -/
def hitF (ds es : List Nat) (n : Nat) (at' i : Int) (j : Nat) : Bool := decide (i * sLn ds - 5 + (j : Int) < endO ds es n at') && (hasL (rowL es) (i * sLn ds - 5 + (j : Int) - at') && !hasB ds n (i * sLn ds - 5 + (j : Int)))
def hitS (ds es : List Nat) (n : Nat) (at' : Int) (i : Int) : Bool := (List.range ((rowL ds).length + 5)).any (hitF ds es n at' i)
def spS (ds es : List Nat) (n : Nat) (at' : Int) : List Int := ((List.range n).map fun (i : Nat) => (i : Int)).filter (hitS ds es n at')
/-- the offsets at which the shy box may begin -/
def ShyAt (es : List Nat) (a : Int) : Prop := 1 - sLn es ≤ a ∧ a ≤ 0
/-- the same by windows, plain -/
def hitB (ds es : List Nat) (n : Nat) (at' : Int) (i : Int) : Bool := (List.range ((rowL ds).length + 5)).any fun (j : Nat) => hasB es n (i * sLn ds - 5 + (j : Int) - at') && !hasB ds n (i * sLn ds - 5 + (j : Int))
def spL (ds es : List Nat) (n : Nat) (at' : Int) : List Int := ((List.range n).map fun (i : Nat) => (i : Int)).filter (hitB ds es n at')
/-- the sort's word -/
def srt (b : Bool) : Str := if b then "shy" else "plain"
def offs (ds es : List Nat) (n : Nat) (b : Bool) (a : Int) : List Int := if b then shyL ds es n a else offL es n a
def spB (ds es : List Nat) (n : Nat) (b : Bool) (a : Int) : List Int := keyL ds n (offs ds es n b a)
def sp_is_sort (K : PySem.W.Frag) : Sp := fun vs H Q _ => ∃ b : Bool, vs = [.str (srt b)] ∧ ∀ H', Same H H' → Q (.bl true) H'
def sp_check_called (K : PySem.W.Frag) : Sp := fun vs H Q _ => ∃ ds, vs = [.str (numS ds)] ∧ Num ds ∧ ∀ H', Same H H' → Q .non H'
def sp_check_sort (K : PySem.W.Frag) : Sp := fun vs H Q _ => ∃ b : Bool, vs = [.str (srt b)] ∧ ∀ H', Same H H' → Q .non H'
def sp_check_rounds (K : PySem.W.Frag) : Sp := fun vs H Q _ => ∃ n : Nat, vs = [.int (n : Nat)] ∧ 1 ≤ n ∧ n ≤ 8 ∧ Q .non H
def sp_has_stroke (K : PySem.W.Frag) : Sp := fun vs H Q _ => ∃ (p : Addr) (o : Int) (n : Nat) (ds : List Nat), vs = [.ref p, .int o, .int (n : Nat)] ∧ SqT K H p ((rowL ds).map V.int) ∧ Num ds ∧ Q (.bl (hasB ds n o)) H
def sp_is_sequence (K : PySem.W.Frag) : Sp := fun vs H Q _ => ∃ p xs t, vs = [.ref p] ∧ Kd.Is K t H p xs ∧ ∀ H', Same H H' → Q (.bl true) H'
def sp_spoilt_rounds (K : PySem.W.Frag) : Sp := fun vs H Q _ => ∃ ds, ∃ (p : Addr) (n : Nat) (os : List Int), vs = [.str (numS ds), .ref p, .int (n : Nat)] ∧ Num ds ∧ n ≤ 8 ∧ SqL K H p (os.map V.int) ∧ os.length ≤ 200 ∧
  ∀ H' q, Same H H' → H q = none → H' q = some (.tup ((keyL ds n os).map V.int)) → Q (.ref q) H'
def sp_given_offsets (K : PySem.W.Frag) : Sp := fun vs H Q _ => ∃ ds es, ∃ (b : Bool) (a : Int) (n : Nat), vs = [.str (numS ds), .str (numS es), .str (srt b), .int a, .int (n : Nat)] ∧ Num ds ∧ Num es ∧ n ≤ 8 ∧
  ∀ H' q, Same H H' → H q = none → H' q = some (.lst ((offs ds es n b a).map V.int)) → Q (.ref q) H'
def sp_step_offset (K : PySem.W.Frag) : Sp := fun vs H Q _ => ∃ ds es, ∃ (a : Int) (n : Nat), vs = [.str (numS ds), .str (numS es), .int a, .int (n : Nat)] ∧ Num ds ∧ Num es ∧ n ≤ 8 ∧ ∀ H', Same H H' → Q (.int (endO ds es n a)) H'
/-- how many rounds a pull spoils at best, and where -/
def IsBest (ds es : List Nat) (n : Nat) (b : Bool) (p : Int × Int) : Prop := match b with
  | true => (ShyAt es p.2 ∧ p.1 = ((spB ds es n true p.2).length : Nat)) ∧ ∀ a, ShyAt es a → Mx.Le2 (((spB ds es n true a).length : Nat), a) p
  | false => p = (((n : Int) * sLn es - 2) / sLn ds + 2, sLn ds - 1)
def sp_greatest_spoil (K : PySem.W.Frag) : Sp := fun vs H Q _ => ∃ ds es, ∃ (b : Bool) (n : Nat), vs = [.str (numS ds), .str (numS es), .str (srt b), .int (n : Nat)] ∧ Num ds ∧ Num es ∧ es ≠ ds ∧ 1 ≤ n ∧ n ≤ 8 ∧
  ∀ H' t p, IsBest ds es n b p → Same H H' → H t = none → H' t = some (.tup [.int p.1, .int p.2]) → Q (.ref t) H'
/-- a box that is given: its number, and whether it is shy -/
abbrev Bx := List Nat × Bool
def BxAt (K : PySem.W.Frag) (H : Hp) (v : V) (x : Bx) : Prop := ∃ q, v = .ref q ∧ SqT K H q [.str (numS x.1), .str (srt x.2)]
def BxsAt (K : PySem.W.Frag) (H : Hp) (xs : List V) (bs : List Bx) : Prop := xs.length = bs.length ∧ ∀ (i : Nat) v, xs[i]? = some v → ∃ x, bs[i]? = some x ∧ BxAt K H v x
def sp_is_box (K : PySem.W.Frag) : Sp := fun vs H Q _ => ∃ v x, vs = [v] ∧ BxAt K H v x ∧ Num x.1 ∧ ∀ H', Same H H' → Q (.bl true) H'
def sp_has_double (K : PySem.W.Frag) : Sp := fun vs H Q _ => ∃ (p : Addr) (t : Bool) (xs : List V) (bs : List Bx), vs = [.ref p] ∧ Kd.Is K t H p xs ∧ BxsAt K H xs bs ∧ bs.length ≤ 30 ∧ (bs.map fun b => numS b.1).Nodup ∧ ∀ H', Same H H' → Q (.bl false) H'
def sp_are_boxes (K : PySem.W.Frag) : Sp := fun vs H Q _ => ∃ (p : Addr) (t : Bool) (xs : List V) (bs : List Bx) (lo hi : Int), vs = [.ref p, .int lo, .int hi] ∧ Kd.Is K t H p xs ∧ BxsAt K H xs bs ∧ bs.length ≤ 30 ∧ lo ≤ (bs.length : Nat) ∧ (bs.length : Nat) ≤ hi ∧ (∀ b ∈ bs, Num b.1) ∧ (bs.map fun b => numS b.1).Nodup ∧ ∀ H', Same H H' → Q (.bl true) H'
def sp_check_others (K : PySem.W.Frag) : Sp := fun vs H Q _ => ∃ (p : Addr) (xs : List V) (bs : List Bx) (ds : List Nat), vs = [.ref p, .str (numS ds)] ∧ SqL K H p xs ∧ BxsAt K H xs bs ∧ bs.length ≤ 29 ∧ (∀ b ∈ bs, Num b.1) ∧ (bs.map fun b => numS b.1).Nodup ∧ (∀ b ∈ bs, b.1 ≠ ds) ∧ ∀ H', Same H H' → Q .non H'
def sp_check_hear (K : PySem.W.Frag) : Sp := fun vs H Q _ => ∃ (i : Int) (n : Nat), vs = [.int i, .int (n : Nat)] ∧ 1 ≤ i ∧ i ≤ 2 ∧ i ≤ (n : Nat) ∧ Q .non H
/-- boxes whose tuples are told by the heap alone -/
def BxsS (H : Hp) (xs : List V) (bs : List Bx) : Prop := xs.length = bs.length ∧ ∀ (i : Nat) v, xs[i]? = some v → ∃ x q, bs[i]? = some x ∧ v = .ref q ∧ H q = some (.tup [.str (numS x.1), .str (srt x.2)])
/-- a row of a table: the number's text, whether it is shy, its count, its offset -/
structure Rw where
  w : Str
  b : Bool
  c : Int
  a : Int
def RowAt (K : PySem.W.Frag) (H : Hp) (v : V) (r : Rw) : Prop := ∃ q, v = .ref q ∧ SqT K H q [.str r.w, .str (srt r.b), .int r.c, .int r.a]
def RowsAt (K : PySem.W.Frag) (H : Hp) (xs : List V) (rs : List Rw) : Prop := xs.length = rs.length ∧ ∀ (i : Nat) v, xs[i]? = some v → ∃ r, rs[i]? = some r ∧ RowAt K H v r
/-- what a table tells of the boxes -/
def TabOf (ds : List Nat) (n : Nat) (bs : List Bx) (rs : List Rw) : Prop := rs.length = bs.length ∧ ∀ (i : Nat) x r, bs[i]? = some x → rs[i]? = some r → r.w = numS x.1 ∧ r.b = x.2 ∧ IsBest ds x.1 n x.2 (r.c, r.a)
def sp_spoil_table (K : PySem.W.Frag) : Sp := fun vs H Q _ => ∃ ds, ∃ (p : Addr) (xs : List V) (bs : List Bx) (n : Nat), vs = [.str (numS ds), .ref p, .int (n : Nat)] ∧ Num ds ∧ SqL K H p xs ∧ BxsAt K H xs bs ∧ bs.length ≤ 29 ∧ (∀ b ∈ bs, Num b.1) ∧ (bs.map fun b => numS b.1).Nodup ∧ (∀ b ∈ bs, b.1 ≠ ds) ∧ 1 ≤ n ∧ n ≤ 8 ∧
  ∀ H' t ys rs, Same H H' → H t = none → H' t = some (.tup ys) → RowsAt K H' ys rs → (∀ v ∈ ys, ∃ q, v = .ref q ∧ H q = none) → TabOf ds n bs rs → Q (.ref t) H'
/-- the first of the rows of a sort with the greatest count -/
def stepR (b : Bool) (o : Option Rw) (r : Rw) : Option Rw := if (decide (r.b = b) && (match o with | none => true | some z => decide (z.c < r.c))) = true then some r else o
def bestR (rs : List Rw) (b : Bool) : Option Rw := rs.foldl (stepR b) none
def BestV (K : PySem.W.Frag) (H : Hp) (v : V) : Option Rw → Prop
  | none => v = .non
  | some r => RowAt K H v r
def cO (rs : List Rw) (b : Bool) : Option Int := (bestR rs b).map (·.c)
def sp_best_row (K : PySem.W.Frag) : Sp := fun vs H Q _ => ∃ (p : Addr) (t : Bool) (xs : List V) (rs : List Rw) (b : Bool), vs = [.ref p, .str (srt b)] ∧ Kd.Is K t H p xs ∧ RowsAt K H xs rs ∧ ∀ v, BestV K H v (bestR rs b) → Q v H
/-- how many pulls that spoil c rounds each hide what is left behind s rounds -/
def need (c s n h : Int) : Int := -(-(n - s - (h - 1)) / (c + h - 1))
def sp_plain_pulls_needed (K : PySem.W.Frag) : Sp := fun vs H Q _ => ∃ c s n h : Int, vs = [.int c, .int s, .int n, .int h] ∧ 1 ≤ c ∧ c < 2 ^ 90 ∧ 1 ≤ h ∧ h ≤ 2 ∧ Q (.int (need c s n h)) H
/-- the greatest count of the rows of a sort -/
def Top (rs : List Rw) (b : Bool) (o : Option Int) : Prop := match o with
  | none => ∀ r ∈ rs, r.b ≠ b
  | some c => (∃ r ∈ rs, r.b = b ∧ r.c = c) ∧ ∀ r ∈ rs, r.b = b → r.c ≤ c
def Counts (rs : List Rw) : Prop := ∀ r ∈ rs, 1 ≤ r.c ∧ r.c < 2 ^ 90
def alone (q : Option Int) (n h : Int) : Option Int := q.map fun c => need c 0 n h
def behind (q m : Option Int) (n h : Int) : Option Int := match m with
  | none => none
  | some m => if n - h + 1 ≤ m then some 1 else q.map fun c => 1 + need c m n h
def oV : Option Int → V
  | none => .non
  | some i => .int i
def sp_pulls_alone (K : PySem.W.Frag) : Sp := fun vs H Q _ => ∃ (p : Addr) (t : Bool) (xs : List V) (rs : List Rw) (n h : Int), vs = [.ref p, .int n, .int h] ∧ Kd.Is K t H p xs ∧ RowsAt K H xs rs ∧ Counts rs ∧ 1 ≤ h ∧ h ≤ 2 ∧ Q (oV (alone (cO rs false) n h)) H
def sp_pulls_behind_shy (K : PySem.W.Frag) : Sp := fun vs H Q _ => ∃ (p : Addr) (t : Bool) (xs : List V) (rs : List Rw) (n h : Int), vs = [.ref p, .int n, .int h] ∧ Kd.Is K t H p xs ∧ RowsAt K H xs rs ∧ Counts rs ∧ 1 ≤ h ∧ h ≤ 2 ∧ Q (oV (behind (cO rs false) (cO rs true) n h)) H
/-- the lesser, if there are any -/
def lesser : Option Int → Option Int → Option Int
  | some a, some b => some (min a b)
  | some a, none => some a
  | none, o => o
def sp_open (K : PySem.W.Frag) : Sp := fun vs H Q _ => ∃ (a : Addr) (ns : List Int), vs = [.ref a] ∧ SqL K H a (ns.map V.int) ∧ ns.length ≤ 63 ∧ ∀ H' b, Same H H' → Bg H' b 0 → Q (.ref b) H'
def sp_draw (K : PySem.W.Frag) : Sp := fun vs H Q _ => ∃ (b : Addr) (n : Nat) (lim : Int), vs = [.ref b, .int lim] ∧ 0 < lim ∧ lim < 2 ^ 100 ∧ Bg H b n ∧ n ≤ 1000000 ∧
  ∀ H' d, 0 ≤ d → d < lim → Bg H' b (n + 1) → Bt b H H' → Q (.int d) H'
def sp_wwhole (K : PySem.W.Frag) : Sp := fun vs H Q _ => ∃ i : Int, vs = [.int i] ∧ Q (.bl true) H
def sp_number (K : PySem.W.Frag) : Sp := fun vs H Q _ => ∃ (b : Addr) (n : Nat), vs = [.ref b] ∧ Bg H b n ∧ n ≤ 900000 ∧ ∀ H' (ds : List Nat), Num ds → Bg H' b (n + 10) → Bt b H H' → Q (.str (numS ds)) H'
def sp_sends (K : PySem.W.Frag) : Sp := fun vs H Q _ => ∃ (b : Addr) (n : Nat), vs = [.ref b] ∧ Bg H b n ∧ n ≤ 900000 ∧ ∀ H' (k : Nat), 1 ≤ k → k ≤ 8 → Bg H' b (n + 2) → Bt b H H' → Q (.int (k : Nat)) H'
/-- the best offset of a pull and how many rounds it spoils: IsBest leaves one pair at most -/
noncomputable def bst (ds es : List Nat) (n : Nat) (b : Bool) : Int × Int := by
  classical exact if h : ∃ p, IsBest ds es n b p then Classical.choose h else (0, 0)
noncomputable def rowD (ds : List Nat) (n : Nat) (x : Bx) : Rw := ⟨numS x.1, x.2, (bst ds x.1 n x.2).1, (bst ds x.1 n x.2).2⟩
noncomputable def tabL (ds : List Nat) (n : Nat) (bs : List Bx) : List Rw := bs.map (rowD ds n)
/-- a pull: when, and by whom -/
abbrev Pul := Int × Str
def ppL (w : Str) (c L s : Int) (k : Nat) (h : Int) : List Pul := (List.range k).map fun (j : Nat) => ((s + h + (j : Int) * (c + h - 1)) * L - 1, w)
def ppO (o : Option Rw) (L s : Int) (k : Nat) (h : Int) : List Pul := match o with
  | none => []
  | some r => ppL r.w r.c L s k h
def leO (a : Int) : Option Int → Bool
  | none => true
  | some b => decide (a ≤ b)
def behP (L n h : Int) (rs : List Rw) : Option (List Pul) := match behind (cO rs false) (cO rs true) n h, bestR rs true with
  | some k, some r => some ((r.a, r.w) :: ppO (bestR rs false) L r.c (k - 1).toNat h)
  | _, _ => none
def plainP (L n h : Int) (rs : List Rw) : Option (List Pul) := match alone (cO rs false) n h with
  | some a => if leO a (behind (cO rs false) (cO rs true) n h) = true then some (ppO (bestR rs false) L 0 a.toNat h) else behP L n h rs
  | none => behP L n h rs
def atF (L M : Int) : Nat → Int
  | 0 => L
  | i + 1 => atF L M i + (L + M + 3 + ((i : Int) + 1))
def shyP (ds : List Nat) (bs : List Bx) (n : Nat) (h : Int) : Option (List Pul) := if h = 1 then none else match bs with
  | [] => none
  | x :: _ => match bs.filter (·.2) with
    | y :: _ => some [(1, numS y.1)]
    | [] => some ((List.range (n - 2 + 1)).map fun i => (atF (sLn ds) ((n : Int) * sLn x.1) i, numS x.1))
noncomputable def hidO (ds : List Nat) (b : Bool) (n : Nat) (h : Int) (bs : List Bx) : Option (List Pul) := if b = true then shyP ds bs n h else plainP (sLn ds) n h (tabL ds n bs)
def PulS (K : PySem.W.Frag) (H : Hp) (xs : List V) (l : List Pul) : Prop := xs.length = l.length ∧ ∀ (i : Nat) v, xs[i]? = some v → ∃ p q, l[i]? = some p ∧ v = .ref q ∧ SqT K H q [.int p.1, .str p.2]
def PulO (K : PySem.W.Frag) (H : Hp) (v : V) : Option (List Pul) → Prop
  | none => v = .non
  | some l => ∃ t ys, v = .ref t ∧ SqT K H t ys ∧ PulS K H ys l
structure HidI (C : Addr) (H : Hp) (p : Addr) (ds : List Nat) (b : Bool) (t : Addr) : Prop where
  at' : ∃ dx fs, H p = some (.ins C dx fs) ∧ fs.lookup ("number" : Str) = some (.str (numS ds)) ∧ fs.lookup ("box_sort" : Str) = some (.str (srt b)) ∧ fs.lookup ("pulls" : Str) = some (.ref t)
def HidAt (K : PySem.W.Frag) (C : Addr) (H : Hp) (v : V) (ds : List Nat) (b : Bool) : Option (List Pul) → Prop
  | none => v = .non
  | some l => ∃ p t ys, v = .ref p ∧ HidI C H p ds b t ∧ SqT K H t ys ∧ PulS K H ys l
def PulN (o : Option (List Pul)) : Prop := ∀ l, o = some l → 1 ≤ l.length ∧ l.length ≤ 20
structure Good (ds : List Nat) (bs : List Bx) : Prop where
  N : Num ds
  len : bs.length ≤ 29
  num : ∀ x ∈ bs, Num x.1
  nd : (bs.map fun x => numS x.1).Nodup
  ne : ∀ x ∈ bs, x.1 ≠ ds
structure Rnd (n : Nat) (h : Int) : Prop where
  n1 : 1 ≤ n
  n8 : n ≤ 8
  h1 : 1 ≤ h
  h2 : h ≤ 2
  hn : h ≤ (n : Nat)
structure Page (bs : List Bx) : Prop where
  l1 : 1 ≤ bs.length
  l2 : bs.length ≤ 30
  num : ∀ x ∈ bs, Num x.1
  nd : (bs.map fun x => numS x.1).Nodup
def sp_check_wire (K : PySem.W.Frag) : Sp := fun vs H Q _ => ∃ (p : Addr) (t : Bool) (xs : List V) (bs : List Bx), vs = [.ref p] ∧ Kd.Is K t H p xs ∧ BxsAt K H xs bs ∧ Page bs ∧ ∀ H', Same H H' → Q .non H'
def sp_hinit (K : PySem.W.Frag) (C : Addr) : Sp := fun vs H Q _ => ∃ (p dx : Addr) (a b c : V), vs = [.ref p, a, b, c] ∧ H p = some (.ins C dx []) ∧ ∀ H' fs, (∀ q o, q ≠ p → H q = some o → H' q = some o) → H' p = some (.ins C dx fs) →
  fs.lookup ("number" : Str) = some a → fs.lookup ("box_sort" : Str) = some b → fs.lookup ("pulls" : Str) = some c → Q .non H'
def hitAt (K : PySem.W.Frag) (C p q : Addr) (zs : List V) (H : Hp) : Prop := ∃ (dx : Addr) (fs : List (Str × V)), H p = some (.ins C dx fs) ∧ fs.lookup ("pulls" : Str) = some (.ref q) ∧ SqT K H q zs
def sp_hiter (K : PySem.W.Frag) (C : Addr) : Sp := fun vs H Q _ => ∃ (p q : Addr) (zs : List V), vs = [.ref p] ∧ hitAt K C p q zs H ∧ ∀ it, H it = none → (∀ b o, H b = some o → b < it) → Q (.ref it) (upd H it (Li.TiO q it))
def sp_hlen (K : PySem.W.Frag) (C : Addr) : Sp := fun vs H Q _ => ∃ (p q : Addr) (zs : List V), vs = [.ref p] ∧ hitAt K C p q zs H ∧ Q (.int (zs.length : Nat)) H
def sp_plain_pulls (K : PySem.W.Frag) : Sp := fun vs H Q _ => ∃ (v : V) (o : Option Rw) (ds : List Nat) (s many h : Int), vs = [v, .str (numS ds), .int s, .int many, .int h] ∧ Num ds ∧ (match o with | none => many ≤ 0 | some r => RowAt K H v r) ∧ 0 ≤ many ∧ many ≤ 8 ∧
  ∀ H' t ys, Same H H' → H t = none → H' t = some (.tup ys) → PulS K H' ys (ppO o (sLn ds) s many.toNat h) → Q (.ref t) H'
def sp_pulls_on_plain (K : PySem.W.Frag) : Sp := fun vs H Q _ => ∃ (t : Addr) (ys : List V) (rs : List Rw) (ds : List Nat) (n : Nat) (h : Int), vs = [.ref t, .str (numS ds), .int (n : Nat), .int h] ∧ Num ds ∧ SqT K H t ys ∧ RowsAt K H ys rs ∧ Counts rs ∧ Rnd n h ∧
  ∀ H' v, Same H H' → PulO K H' v (plainP (sLn ds) n h rs) → Q v H'
def sp_pulls_on_shy (K : PySem.W.Frag) : Sp := fun vs H Q _ => ∃ (p : Addr) (xs : List V) (bs : List Bx) (ds : List Nat) (n : Nat) (h : Int), vs = [.ref p, .str (numS ds), .int (n : Nat), .int h] ∧ SqL K H p xs ∧ BxsAt K H xs bs ∧ Good ds bs ∧ Rnd n h ∧
  ∀ H' v, Same H H' → PulO K H' v (shyP ds bs n h) → Q v H'
def sp_hiding_of (K : PySem.W.Frag) (C : Addr) : Sp := fun vs H Q _ => ∃ (p : Addr) (xs : List V) (bs : List Bx) (ds : List Nat) (b : Bool) (n : Nat) (h : Int), vs = [.ref p, .str (numS ds), .str (srt b), .int (n : Nat), .int h] ∧ SqL K H p xs ∧ BxsAt K H xs bs ∧ Good ds bs ∧ Rnd n h ∧
  ∀ H' v, Same H H' → HidAt K C H' v ds b (hidO ds b n h bs) → PulN (hidO ds b n h bs) → Q v H'
def sp_hidden (K : PySem.W.Frag) (C : Addr) : Sp := sp_hiding_of K C
noncomputable def oneH (ds : List Nat) (b : Bool) (n : Nat) (h : Int) (x : Bx) : Bool := decide ((hidO ds b n h [x]).map List.length = some 1)
def sp_is_hidden_by (K : PySem.W.Frag) : Sp := fun vs H Q _ => ∃ (v : V) (x : Bx) (ds : List Nat) (b : Bool) (n : Nat) (h : Int), vs = [v, .str (numS ds), .str (srt b), .int (n : Nat), .int h] ∧ BxAt K H v x ∧ Good ds [x] ∧ Rnd n h ∧ ∀ H', Same H H' → Q (.bl (oneH ds b n h x)) H'
def othL (bs : List Bx) (ds : List Nat) : List Bx := bs.filter fun y => decide (y.1 ≠ ds)
def sp_others_of (K : PySem.W.Frag) : Sp := fun vs H Q _ => ∃ (p : Addr) (t : Bool) (xs : List V) (bs : List Bx) (ds : List Nat), vs = [.ref p, .str (numS ds)] ∧ Kd.Is K t H p xs ∧ BxsAt K H xs bs ∧ bs.length ≤ 30 ∧
  ∀ H' q ys, Same H H' → H q = none → H' q = some (.lst ys) → BxsAt K H' ys (othL bs ds) → Q (.ref q) H'
def sp_check_page (K : PySem.W.Frag) : Sp := fun vs H Q _ => ∃ (p : Addr) (t : Bool) (xs : List V) (bs : List Bx) (n : Nat) (h : Int), vs = [.ref p, .int (n : Nat), .int h] ∧ Kd.Is K t H p xs ∧ BxsAt K H xs bs ∧ Page bs ∧ Rnd n h ∧ ∀ H', Same H H' → Q .non H'
/-- a row of who hides whom -/
structure Wr where
  d : List Nat
  b : Bool
  c : Option Int
  al : List Str
def WrAt (K : PySem.W.Frag) (H : Hp) (v : V) (r : Wr) : Prop := ∃ q u, v = .ref q ∧ SqT K H q [.str (numS r.d), .str (srt r.b), oV r.c, .ref u] ∧ SqT K H u (r.al.map V.str)
def WrsAt (K : PySem.W.Frag) (H : Hp) (xs : List V) (rs : List Wr) : Prop := xs.length = rs.length ∧ ∀ (i : Nat) v, xs[i]? = some v → ∃ r, rs[i]? = some r ∧ WrAt K H v r
def lenO (o : Option (List Pul)) : Option Int := o.map fun l => ((l.length : Nat) : Int)
noncomputable def wrD (n : Nat) (h : Int) (bs : List Bx) (x : Bx) : Wr := ⟨x.1, x.2, lenO (hidO x.1 x.2 n h (othL bs x.1)), ((othL bs x.1).filter (oneH x.1 x.2 n h)).map fun y => numS y.1⟩
def sp_who_hides (K : PySem.W.Frag) : Sp := fun vs H Q _ => ∃ (p : Addr) (t : Bool) (xs : List V) (bs : List Bx) (n : Nat) (h : Int), vs = [.ref p, .int (n : Nat), .int h] ∧ Kd.Is K t H p xs ∧ BxsAt K H xs bs ∧ Page bs ∧ Rnd n h ∧
  ∀ H' t ys, Same H H' → H t = none → H' t = some (.tup ys) → WrsAt K H' ys (bs.map (wrD n h bs)) → (∀ x ∈ bs, PulN (hidO x.1 x.2 n h (othL bs x.1))) → Q (.ref t) H'
noncomputable def fitB (n : Nat) (h : Int) (bs : List Bx) (m : Int) (x : Bx) : Bool := match lenO (hidO x.1 x.2 n h (othL bs x.1)) with
  | none => false
  | some k => decide (k ≤ m)
def FirstAt (K : PySem.W.Frag) (C : Addr) (H : Hp) (v : V) (n : Nat) (h : Int) (bs : List Bx) : Option Bx → Prop
  | none => v = .non
  | some x => HidAt K C H v x.1 x.2 (hidO x.1 x.2 n h (othL bs x.1))
def sp_first_hidden (K : PySem.W.Frag) (C : Addr) : Sp := fun vs H Q _ => ∃ (p : Addr) (t : Bool) (xs : List V) (bs : List Bx) (n : Nat) (h m : Int), vs = [.ref p, .int (n : Nat), .int h, .int m] ∧ Kd.Is K t H p xs ∧ BxsAt K H xs bs ∧ Page bs ∧ Rnd n h ∧ 0 ≤ m ∧
  ∀ H' v, Same H H' → FirstAt K C H' v n h bs (bs.find? (fitB n h bs m)) → (∀ x, bs.find? (fitB n h bs m) = some x → PulN (hidO x.1 x.2 n h (othL bs x.1))) → Q v H'
def cT : Option Int → Str
  | none => "--"
  | some i => toString i
def lineT (r : Wr) : Str := ((((Str.empty ++ Fs.txt false (numS r.d) 4) ++ " ") ++ Fs.txt false (srt r.b) 5) ++ " " ++ Fs.txt true (cT r.c) 2) ++ Txt.join "" (r.al.map fun a => " " ++ a)
def sp_hiding_page (K : PySem.W.Frag) : Sp := fun vs H Q _ => ∃ (p : Addr) (t : Bool) (xs : List V) (bs : List Bx) (n : Nat) (h : Int), vs = [.ref p, .int (n : Nat), .int h] ∧ Kd.Is K t H p xs ∧ BxsAt K H xs bs ∧ Page bs ∧ Rnd n h ∧
  ∀ H' t, Same H H' → H t = none → H' t = some (.tup ((bs.map fun x => lineT (wrD n h bs x)).map V.str)) → Q (.ref t) H'
def sp_wire (K : PySem.W.Frag) : Sp := fun vs H Q _ => ∃ (b : Addr) (n : Nat), vs = [.ref b] ∧ Bg H b n ∧ n ≤ 700000 ∧ ∀ H' p xs bs, p ≠ b → H' p = some (.lst xs) → BxsS H' xs bs → Page bs → bs.length ≤ 5 → Bg H' b (n + 200) → Bt b H H' → Q (.ref p) H'
structure Lin (r : Wr) : Prop where
  N : Num r.d
  c : ∀ i, r.c = some i → 0 ≤ i ∧ i ≤ 1000
  few : r.al.length ≤ 30
  sh : ∀ a ∈ r.al, a.length ≤ 4
def sp_line (K : PySem.W.Frag) : Sp := fun vs H Q _ => ∃ v r, vs = [v] ∧ WrAt K H v r ∧ Lin r ∧ ∀ H', Same H H' → Q (.str (lineT r)) H'
def sp_row_told (K : PySem.W.Frag) : Sp := fun vs H Q _ => ∃ (v : V) (p : Addr) (xs : List V) (bs : List Bx) (i n : Nat) (h : Int) (x : Bx), vs = [v, .ref p, .int (i : Nat), .int (n : Nat), .int h] ∧ bs[i]? = some x ∧ WrAt K H v (wrD n h bs x) ∧ SqL K H p xs ∧ BxsAt K H xs bs ∧ Page bs ∧ Rnd n h ∧ ∀ H', Same H H' → Q (.bl true) H'
def sp_law (K : PySem.W.Frag) : Sp := fun vs H Q _ => ∃ (a : Addr) (ns : List Int), vs = [.ref a] ∧ SqL K H a (ns.map V.int) ∧ ns.length ≤ 63 ∧ ∀ H', Q (.bl true) H'
end K47

namespace K47
open PySem L2 Wm TL Dv
section
variable {P : Program} {w : World} {K : PySem.W.Frag} {mg : Str → Option Value} {base : Heap}
theorem tk_succ {α : Type} {l : List α} {i : Nat} {x : α} (h : l[i]? = some x) : l.take (i + 1) = l.take i ++ [x] := by
  rw [List.take_succ, h]
  rfl
theorem tyT {H : Hp} {p : Addr} {xs : List V} (h : SqT K H p xs) : TyX K H (.ref p) (.type "tuple") := by
  rcases h with (h | ⟨o, h⟩) | ⟨o, its, n, e, c, _⟩
  · exact .base (.tup h)
  · exact .fTuple h
  · exact .kTuple e c
theorem tyL {H : Hp} {p : Addr} {xs : List V} (h : SqL K H p xs) : TyX K H (.ref p) (.type "list") := by
  rcases h with (h | ⟨o, h⟩) | ⟨o, its, n, e, c, _⟩
  · exact .base (.lst h)
  · exact .base (.frz h)
  · exact .kList e c
theorem iteN {c : Bool} {A B : Prop} (e : c = false) (h : B) : if c = true then A else B := by
  rw [e]
  exact iteF h
theorem flat_ints (ns : List Int) : (ns.map V.int).all flatV = true := by
  rw [List.all_map]
  exact List.all_eq_true.mpr fun _ _ => rfl
theorem ok_is_whole (T : Txt K mg) : FnOk P w K mg base CX0 1 T.a_is_whole T.d_is_whole ["thing"] (sp_is_whole K) := by
  refine T.F_is_whole.ok sc_is_whole (fun vs H Q E h => ?_) (fun cdv A outer s H vs Q E hr h => ?_)
  · obtain ⟨x, o, rfl, _⟩ := h
    rfl
  · obtain ⟨x, o, rfl, hx, k⟩ := h
    refine ⟨_, (pss_one (ps_ret (pe_and (pe_callB call_isi (by rfl) T.z_isinstance (by decide +kernel) (pa_cons (pv 0) (pa_cons (pe_bltn (v := V.ty "int") (by rfl) T.z_int (by decide +kernel) rfl) pa_nil))) (pe_one (pe_not (pe_callB call_isi (by rfl) T.z_isinstance (by decide +kernel) (pa_cons (pv 0) (pa_cons (pe_bltn (v := V.ty "bool") (by rfl) T.z_bool (by decide +kernel) rfl) pa_nil)))))))), ?_⟩
    cases hx with
    | int i =>
      refine ⟨_, rfl, _, _, _, _, true, rfl, .ty "int", .base (.int _), kit_ty (by decide +kernel), true, rfl, iteT ?_⟩
      exact ⟨_, rfl, _, _, _, _, false, rfl, .ty "bool", .base (.int _), kit_ty (by decide +kernel), false, rfl, k⟩
    | bl b =>
      refine ⟨_, rfl, _, _, _, _, true, rfl, .ty "int", .base (.bl _), kit_ty (by decide +kernel), true, rfl, iteT ?_⟩
      exact ⟨_, rfl, _, _, _, _, true, rfl, .ty "bool", .base (.bl _), kit_ty (by decide +kernel), true, rfl, k⟩
    | str s => exact ⟨_, rfl, _, _, _, _, false, rfl, .ty "int", .base (.str _), kit_ty (by decide +kernel), false, rfl, iteF k⟩
    | non => exact ⟨_, rfl, _, _, _, _, false, rfl, .ty "int", .base .non, kit_ty (by decide +kernel), false, rfl, iteF k⟩
    | @seq t p xs h =>
      cases t with
      | true => exact ⟨_, rfl, _, _, _, _, false, rfl, .ty "int", tyT h, kit_ty (by decide +kernel), false, rfl, iteF k⟩
      | false => exact ⟨_, rfl, _, _, _, _, false, rfl, .ty "int", tyL h, kit_ty (by decide +kernel), false, rfl, iteF k⟩
theorem ok_check_offset (T : Txt K mg) : FnOk P w K mg base CX0 2 T.a_check_offset T.d_check_offset ["thing"] (sp_check_offset K) := by
  refine T.F_check_offset.ok sc_check_offset (fun vs H Q E h => ?_) (fun cdv A outer s H vs Q E hr h => ?_)
  · obtain ⟨i, rfl, _⟩ := h
    rfl
  · obtain ⟨i, rfl, h0, k⟩ := h
    refine ⟨_, (pss_one (ps_if (PW.pt (pw_or (pt_not (pt_val (pe_call (ok_is_whole T) (hr.mono (by decide)) (by rfl) T.g_is_whole T.F_is_whole.kp T.b_is_whole .nil pass0 (pa_cons (pv 0) pa_nil)))) (pw_or1 (pt_cmpR op_lt (pv 0) pe_int (nomark _)))))
        (pss_one ps_never)
        pss_nil)), ?_⟩
    refine ⟨_, rfl, _, some i, rfl, .int i, true, rfl, iteF ?_⟩
    exact ⟨_, rfl, i, 0, rfl, rfl, _, rfl, iteN (decide_eq_false (by omega)) k⟩
theorem ok_iter (T : Txt K mg) : FnOk P w K mg base CX0 1 T.a_iter T.d_iter ["self"] (sp_iter K T.C) := by
  refine T.F_iter.ok sc_iter (fun vs H Q E h => ?_) (fun cdv A outer s H vs Q E hr h => ?_)
  · obtain ⟨p, q, ns, rfl, _⟩ := h
    rfl
  · obtain ⟨p, q, ns, rfl, ⟨dx, fs, hp, l1, hq⟩, k⟩ := h
    refine ⟨_, (pss_one (ps_ret (pe_callB Li.call_iterT (by rfl) T.z_iter (by decide +kernel) (pa_cons (pe_fld (pv 0) rfl) pa_nil)))), ?_⟩
    exact ⟨_, rfl, p, T.C, dx, fs, _, rfl, hp, T.clC, T.nO, l1, q, _, rfl, hq, k⟩
theorem okA_iter (T : Txt K mg) : Li.FnA P w K mg base 1 T.a_iter (spA_iter K T.C) := by
  refine Li.fnA_of T.F_iter sc_iter T.b_iter (fun n vs H Q E h => ?_) (fun cdv A outer s H vs Q E hr h => ?_)
  · obtain ⟨p, q, ns, rfl, _⟩ := h
    rfl
  · obtain ⟨p, q, ns, rfl, ⟨dx, fs, hp, l1, hq⟩, k⟩ := h
    refine ⟨_, (pss_one (ps_ret (pe_callB Li.call_iterN (by rfl) T.z_iter (by decide +kernel) (pa_cons (pe_fld (pv 0) rfl) pa_nil)))), ?_⟩
    exact ⟨_, rfl, p, T.C, dx, fs, _, rfl, hp, T.clC, T.nO, l1, q, _, rfl, hq, k⟩
theorem ok_is_whole_within (T : Txt K mg) : FnOk P w K mg base CX0 2 T.a_is_whole_within T.d_is_whole_within ["thing", "low", "high"] (sp_is_whole_within K) := by
  refine T.F_is_whole_within.ok sc_is_whole_within (fun vs H Q E h => ?_) (fun cdv A outer s H vs Q E hr h => ?_)
  · obtain ⟨i, lo, hi, rfl, _⟩ := h
    rfl
  · obtain ⟨i, lo, hi, rfl, k⟩ := h
    refine ⟨_, (pss_one (ps_ret (pe_and (pe_call (ok_is_whole T) (hr.mono (by decide)) (by rfl) T.g_is_whole T.F_is_whole.kp T.b_is_whole .nil pass0 (pa_cons (pv 0) pa_nil)) (pe_one (pe_chain op_le op_le (pv 1) (pv 0) (pv 2)))))), ?_⟩
    refine ⟨_, rfl, _, some i, rfl, .int i, true, rfl, iteT ?_⟩
    refine ⟨_, rfl, _, rfl, _, _, rfl, rfl, _, rfl, ?_⟩
    cases e : decide (lo ≤ i) with
    | true =>
      rw [e] at k
      exact iteT ⟨_, rfl, _, _, rfl, rfl, k⟩
    | false =>
      rw [e] at k
      exact iteF k
end
end K47

namespace K47
open PySem L2 Wm TL Dv
section
variable {P : Program} {w : World} {K : PySem.W.Frag} {mg : Str → Option Value} {base : Heap}
theorem StrAt.keep {C : Addr} {H H' : Hp} {p : Addr} {ns : List Int} (h : StrAt K C H p ns) (s : Same H H') : StrAt K C H' p ns := by
  obtain ⟨dx, fs, q, hp, l1, l2, hq⟩ := h
  exact ⟨dx, fs, q, s _ _ hp, l1, l2, sameT s hq⟩
theorem ok_init (T : Txt K mg) : FnOk P w K mg base CX0 3 T.a_init T.d_init ["self", "offsets"] (sp_init K T.C) := by
  refine T.F_init.ok sc_init (fun vs H Q E h => ?_) (fun cdv A outer s H vs Q E hr h => ?_)
  · obtain ⟨p, dx, x, t, xs, rfl, _⟩ := h
    rfl
  · obtain ⟨p, dx, x, t, xs, rfl, hp, hx, lo, few, k⟩ := h
    refine ⟨_, (pss_cons (ps_for (passes_of rfl) rfl (Kd.pi_seq (pv 1)) (pg_name (i := 2) sc_init.nd rfl (Or.inl rfl))
        (pss_one (ps_expr (pe_call (ok_check_offset T) (hr.mono (by decide)) (by rfl) T.g_check_offset T.F_check_offset.kp T.b_check_offset .nil pass0 (pa_cons (pv 2) pa_nil)))))
      (pss_one (ps_fld (pv 0) (pe_callTy call_tuple_of (by rfl) T.z_tuple (by decide +kernel) (pa_cons (pe_callB (Sa.cr_sortedSetA (by rfl)) (by rfl) T.z_sorted (by decide +kernel) (pa_cons (pe_callTy (Si.call_set (by rfl)) (by rfl) T.z_set (by decide +kernel) (pa_cons (pv 1) pa_nil)) pa_nil)) pa_nil)) rfl))), ?_⟩
    refine ⟨_, rfl, x, _, t, rfl, hx, fun J G wk hG => ?_⟩
    refine for_it wk (fun _ σ H' => ∃ v, σ = [some (.ref p), some (.ref x), v] ∧ H' = H) ⟨none, rfl, rfl⟩ (fun _ σ H' _ h => let ⟨_, _, e⟩ := h; e ▸ hG _ hx) (fun i y σ H1 H2 hi hP hY => ?_) (fun σ H1 hP => ?_)
    · obtain ⟨v, rfl, rfl⟩ := hP
      obtain ⟨rfl, hy⟩ := hY
      rw [List.getElem?_map] at hy
      obtain ⟨n, hn, rfl⟩ := Option.map_eq_some_iff.mp hy
      exact ⟨_, rfl, n, rfl, lo n (List.mem_of_getElem? hn), _, rfl, rfl⟩
    · obtain ⟨v, rfl, rfl⟩ := hP
      refine ⟨_, rfl, x, xs, rfl, hx.sq, by omega, fun S c hc hS => ?_⟩
      have s1 := same_new (o := SetO w S (fun y => decide (y ∈ xs)) c) hS
      refine ⟨S, _, c, rfl, upd_same, by omega, fun ls l up mem len hl => ?_⟩
      have s2 := s1.trans (same_new (o := .lst (ls.map V.int)) hl)
      refine ⟨l, _, rfl, .inl ⟨SqL.of upd_same, fun q hq => ?_⟩⟩
      have s3 := s2.trans (same_new (o := .tup (ls.map V.int)) hq)
      have hq3 : upd (upd (upd H1 S (SetO w S (fun y => decide (y ∈ xs)) c)) l (.lst (ls.map V.int))) q (.tup (ls.map V.int)) q = some (.tup (ls.map V.int)) := upd_same
      have hp4 := s3 _ _ hp
      have nq : q ≠ p := (ne_of_none (s2 _ _ hp) hq).symm
      refine ⟨_, rfl, p, T.C, dx, [], rfl, hp4, T.clC, T.nO, by show 0 < 1000; decide, ?_⟩
      refine k _ ls (fun a o na e => by rw [upd_ne na]; exact s3 _ _ e) ⟨up, fun j => (mem j).trans decide_eq_true_iff⟩ (by omega) ⟨dx, _, q, upd_same, ?_, fun m hm => ?_, ?_⟩
      · rfl
      · show List.lookup m [(("offsets" : Str), V.ref q)] = none
        rw [List.lookup_cons, beq_eq_false_iff_ne.mpr hm]
        rfl
      · exact SqT.of (by rw [upd_ne nq]; exact hq3)
theorem Off.sort {xs ns : List Int} (h : IsSort xs ns) (lo : ∀ n ∈ xs, 0 ≤ n) (few : ns.length < 1000) : Off ns := ⟨h.1, fun n m => lo n ((h.2 n).mp m), few⟩
end
end K47

namespace K47
open PySem L2 Wm TL Dv
section
variable {P : Program} {w : World} {K : PySem.W.Frag} {mg : Str → Option Value} {base : Heap}
theorem small_len {n : Nat} (h : n ≤ 100000) : n ≤ sizeLine := by
  have : (100000 : Nat) ≤ sizeLine := by decide
  omega
theorem sum_cast : ∀ ds : List Nat, (ds.map fun (d : Nat) => (d : Int)).sum = ((ds.sum : Nat) : Int)
  | [] => rfl
  | d :: ds => by
    rw [List.map_cons, List.sum_cons, List.sum_cons, sum_cast ds]
    omega
def letters (t : Str) : List Bool := (tl t).map fun c => decide (c ∈ ("123456789" : Str).cps.toList)
theorem letters_all {t : Str} : (letters t).all id = true ↔ ∀ c ∈ tl t, c ∈ ("123456789" : Str).cps.toList := by
  unfold letters
  rw [List.all_map, List.all_eq_true]
  constructor
  · intro h c m
    exact of_decide_eq_true (h c m)
  · intro h c m
    exact decide_eq_true (h c m)
theorem cps_at {t : Str} {i c : Nat} (h : t.cps[i]? = some c) : (tl t)[i]? = some c := by
  rw [← h]
  exact Array.getElem?_toList ..
theorem ok_is_number (T : Txt K mg) : FnOk P w K mg base CX0 1 T.a_is_number T.d_is_number ["thing"] (sp_is_number K) := by
  refine T.F_is_number.ok sc_is_number (fun vs H Q E h => ?_) (fun cdv A outer s H vs Q E hr h => ?_)
  · obtain ⟨x, d, rfl, _⟩ := h
    rfl
  · obtain ⟨x, d, rfl, ob, kx⟩ := h
    obtain ⟨n, b0, ty, k1, k2, k3⟩ := tys_of ob
    refine ⟨_, (pss_cons (ps_if (PW.pt (pw_or (pt_not (pt_val (pe_callB call_isi (by rfl) T.z_isinstance (by decide +kernel) (pa_cons (pv 0) (pa_cons (pe_bltn (v := V.ty "str") (by rfl) T.z_str (by decide +kernel) rfl) pa_nil))))) (pw_or1 (pt_not (pt_chain op_le op_le pe_int (pe_callB call_len_str (by rfl) T.z_len PySem.boot_len (pa_cons (pv 0) pa_nil)) (pe_glob (v := V.int 4) rfl T.c_MOST_DIGITS ⟨_, rfl⟩))))))
        (pss_one (ps_ret pe_bl))
        pss_nil)
      (pss_cons (ps_if (pt_not (pt_val (pe_callB (cr_all rfl) (by rfl) T.z_all (by decide +kernel) (pa_cons (pe_lc (own := [("letter", 1)]) (g := gName 1) (tt := tYes) rfl sc_is_number.nd (pi_str (pv 0)) (blkOk_by (own := [("letter", 1)]) (N := nm_is_number) (sc := (defScope s_is_number)) (by decide +kernel)) (fun _ _ _ _ _ => pg_name (i := 1) sc_is_number.nd rfl (Or.inl rfl)) (fun _ _ _ _ _ => pts_nil) (fun _ _ _ _ _ => (pe_cmpR op_in_sign (pv 1) (pe_glob (v := V.str "123456789") rfl T.c_DIGITS ⟨_, rfl⟩) rfl))) pa_nil))))
        (pss_one (ps_ret pe_bl))
        pss_nil)
      (pss_one (ps_ret (pe_cmpR op_le (pe_callB (cr_sum rfl) (by rfl) T.z_sum (by decide +kernel) (pa_cons (pe_lc (own := [("letter", 1)]) (g := gName 1) (tt := tYes) rfl sc_is_number.nd (pi_str (pv 0)) (blkOk_by (own := [("letter", 1)]) (N := nm_is_number) (sc := (defScope s_is_number)) (by decide +kernel)) (fun _ _ _ _ _ => pg_name (i := 1) sc_is_number.nd rfl (Or.inl rfl)) (fun _ _ _ _ _ => pts_nil) (fun _ _ _ _ _ => (pe_callTy call_int_str (by rfl) T.z_int (by decide +kernel) (pa_cons (pv 1) pa_nil)))) pa_nil)) (pe_glob (v := V.int 24) rfl T.c_GREATEST_SUM ⟨_, rfl⟩) (nomark _)))))), ?_⟩
    refine ⟨_, rfl, _, _, _, _, b0, rfl, .ty "str", ty, k1, b0, rfl, ?_⟩
    cases b0 with
    | false =>
      refine iteT ?_
      refine iteT ?_
      exact kx _ _ (Same.refl _) ⟨fun z => (by cases z), fun z => absurd z (k3 rfl)⟩
    | true =>
    refine iteF ?_
    obtain ⟨t, rfl, _, tx⟩ := k2 rfl
    have hz : t.length ≤ 100000 := Nat.le_trans tx.len (by decide)
    have k : ∀ H' b, Same H H' → (b = true ↔ IsNum t) → Q (.bl b) H' := fun H' b s e => kx H' b s (e.trans isN_str.symm)
    have hl : t.length = (tl t).length := len_tl t
    have numlen : IsNum t → 1 ≤ t.length ∧ t.length ≤ 4 := fun ⟨ds, N, e⟩ => by
      rw [e, numS_len]
      exact ⟨N.pos, N.len⟩
    refine ⟨_, rfl, _, rfl, small_len hz, _, _, rfl, rfl, _, rfl, ?_⟩
    refine ite2 (fun c1 => ?_) (fun c1 => ?_)
    case refine_2 =>
      have c1' : ¬ (1 : Int) ≤ (t.length : Nat) := fun z => c1 (decide_eq_true z)
      refine ⟨false, rfl, iteT ?_⟩
      exact k _ _ (Same.refl _) ⟨fun z => (by cases z), fun z => absurd (numlen z).1 (by omega)⟩
    have c1' : (1 : Int) ≤ (t.length : Nat) := of_decide_eq_true c1
    refine ⟨_, _, rfl, rfl, _, rfl, ?_⟩
    by_cases c2 : ((t.length : Nat) : Int) ≤ 4
    case neg =>
      rw [decide_eq_false c2]
      refine iteT ?_
      exact k _ _ (Same.refl _) ⟨fun z => (by cases z), fun z => absurd (numlen z).2 (by omega)⟩
    rw [decide_eq_true c2]
    refine iteF ?_
    refine ⟨_, rfl, _, rfl, fun D hD => ?_⟩
    have hsz : t.cps.size = (tl t).length := hl
    refine lc_it walk_str (fun i H' => Same H H' ∧ H' D = some (.lst (((letters t).take i).map V.bl))) ⟨same_new hD, upd_same⟩ (fun _ _ _ _ => trivial) (fun i x H1 H' hi hP hY => ?_) (fun H1 hP => ?_)
    · obtain ⟨sm, hL⟩ := hP
      obtain ⟨rfl, c, hc, rfl⟩ := hY
      have hc2 : (letters t)[i]? = some (decide (c ∈ ("123456789" : Str).cps.toList)) := by
        unfold letters
        rw [List.getElem?_map, cps_at hc]
        rfl
      refine ⟨rfl, yesT ?_⟩
      refine ⟨_, rfl, _, _, rfl, rfl, _, hL, by rw [List.length_map, List.length_take]; exact small1000 (by omega), ?_⟩
      refine ⟨same_mut sm hD, ?_⟩
      rw [upd_same, take_succ_map _ hc2]
    · obtain ⟨sm, hL⟩ := hP
      have ell : (letters t).length = t.cps.size := by unfold letters; rw [List.length_map, hsz]
      rw [← ell, List.take_length] at hL
      refine ⟨D, letters t, rfl, SqL.of hL, _, rfl, ?_⟩
      by_cases c3 : (letters t).all id = true
      case neg =>
        rw [Bool.not_eq_true] at c3
        rw [c3]
        refine iteT ?_
        refine k _ _ sm ⟨fun z => (by cases z), fun ⟨ds, N, e⟩ => ?_⟩
        have q := letters_all.mpr (by rw [e]; exact num_codes N.dig : ∀ c ∈ tl t, c ∈ ("123456789" : Str).cps.toList)
        rw [c3] at q
        cases q
      rw [c3]
      refine iteF ?_
      obtain ⟨ds, dig, et⟩ := dig_text t (letters_all.mp c3)
      subst et
      rw [numS_len] at c1' c2
      refine ⟨_, rfl, _, rfl, fun D2 hD2 => ?_⟩
      refine lc_it walk_str (fun i H' => Same H H' ∧ H' D2 = some (.lst ((ds.take i).map fun (d : Nat) => V.int (d : Int)))) ⟨sm.trans (same_new hD2), upd_same⟩ (fun _ _ _ _ => trivial) (fun i x H2 H' hi hP hY => ?_) (fun H2 hP => ?_)
      · obtain ⟨sm2, hl2⟩ := hP
        obtain ⟨rfl, c, hc, rfl⟩ := hY
        rw [numS_size] at hi
        rw [numS_at ds i hi] at hc
        have hc' := (Option.some.inj hc).symm
        subst hc'
        refine ⟨rfl, yesT ?_⟩
        refine ⟨_, rfl, _, _, rfl, dig_int (dig _ (List.getElem_mem hi)), (by show 1 ≤ 640; decide), _, hl2, by rw [List.length_map, List.length_take]; exact small1000 (by omega), ?_⟩
        refine ⟨same_mut sm2 (sm.free hD2), ?_⟩
        rw [upd_same, take_succ_map _ (List.getElem?_eq_getElem hi)]
      · obtain ⟨sm2, hl2⟩ := hP
        rw [numS_size, List.take_length] at hl2
        refine ⟨D2, ds.map fun (d : Nat) => (d : Int), rfl, SqL.of (by rw [hl2, List.map_map]; rfl), _, _, rfl, rfl, ?_⟩
        rw [sum_cast]
        refine k _ _ sm2 ?_
        rw [isnum_dig]
        constructor
        · intro z
          have z' : ((ds.sum : Nat) : Int) ≤ 24 := of_decide_eq_true z
          exact ⟨by omega, by omega, dig, by omega⟩
        · intro N
          exact decide_eq_true (show ((ds.sum : Nat) : Int) ≤ 24 by have := N.sum; omega)
end
end K47

namespace K47
open PySem L2 Wm TL Dv
section
variable {P : Program} {w : World} {K : PySem.W.Frag} {mg : Str → Option Value} {base : Heap}
theorem ok_check_number (T : Txt K mg) : FnOk P w K mg base (L2.CX P w) 3 T.a_check_number T.d_check_number ["thing"] (sp_check_number K T.CN) := by
  refine T.F_check_number.okX sc_check_number (fun vs H Q E h => ?_) (fun cdv A outer s H vs Q E hr h => ?_)
  · obtain ⟨x, d, rfl, _⟩ := h
    rfl
  · obtain ⟨x, d, rfl, ob, kS, kE⟩ := h
    refine ⟨_, (pss_one (ps_if (pt_not (pt_val (pe_call (ok_is_number T) (hr.mono (by decide)) (by rfl) T.g_is_number T.F_is_number.kp T.b_is_number .nil pass0 (pa_cons (pv 0) pa_nil))))
        (pss_one (ps_raiseLow rfl T.low hr (takes_of rfl rfl rfl rfl) (by exact (pa_cons (pv 0) pa_nil))))
        pss_nil)), ?_⟩
    refine ⟨_, rfl, x, d, rfl, ob, fun H1 b s1 hb => ⟨b, rfl, ?_⟩⟩
    cases b with
    | true => exact iteF (kS (hb.mp rfl) _ s1)
    | false =>
      refine iteT ?_
      exact ⟨_, rfl, _, rfl, fun dd hdd => kE (fun z => by have := hb.mpr z; cases this) _ dd (s1.trans (same_new hdd)) upd_same⟩
theorem ok_blocks (T : Txt K mg) : FnOk P w K mg base (L2.CX P w) 4 T.a_blocks T.d_blocks ["number"] (sp_blocks K T.CN) := by
  refine T.F_blocks.okX sc_blocks (fun vs H Q E h => ?_) (fun cdv A outer s H vs Q E hr h => ?_)
  · obtain ⟨x, d, rfl, _⟩ := h
    rfl
  · obtain ⟨x, d, rfl, ob, kS, kE⟩ := h
    refine ⟨_, (pss_cons (ps_expr (pe_callS (ok_check_number T) (hr.mono (by decide)) rfl T.g_check_number T.F_check_number.kp T.b_check_number (fun σ => passAt (takes_of rfl rfl rfl rfl) σ) (by exact (pa_cons (pv 0) pa_nil))))
      (pss_one (ps_ret (pe_callTy call_tuple_of (by rfl) T.z_tuple (by decide +kernel) (pa_cons (pe_lc (own := [("letter", 1)]) (g := gName 1) (tt := tYes) rfl sc_blocks.nd (pi_str (pv 0)) (blkOk_by (own := [("letter", 1)]) (N := nm_blocks) (sc := (defScope s_blocks)) (by decide +kernel)) (fun _ _ _ _ _ => pg_name (i := 1) sc_blocks.nd rfl (Or.inl rfl)) (fun _ _ _ _ _ => pts_nil) (fun _ _ _ _ _ => (pe_callTy call_int_str (by rfl) T.z_int (by decide +kernel) (pa_cons (pv 1) pa_nil)))) pa_nil))))), ?_⟩
    refine ⟨_, rfl, x, d, rfl, ob, fun isn H1 s1 => ?_, fun n => kE n⟩
    obtain ⟨ds, N, rfl⟩ := isn
    have k := kS ds N rfl
    have hlen := N.len
    refine ⟨_, rfl, _, rfl, fun D hD => ?_⟩
    refine lc_it walk_str (fun i H' => Same H1 H' ∧ H' D = some (.lst ((ds.take i).map fun (d : Nat) => V.int (d : Int)))) ⟨same_new hD, upd_same⟩ (fun _ _ _ _ => trivial) (fun i x H2 H' hi hP hY => ?_) (fun H2 hP => ?_)
    · obtain ⟨sm2, hl2⟩ := hP
      obtain ⟨rfl, c, hc, rfl⟩ := hY
      rw [numS_size] at hi
      rw [numS_at ds i hi] at hc
      have hc' := (Option.some.inj hc).symm
      subst hc'
      refine ⟨rfl, yesT ?_⟩
      refine ⟨_, rfl, _, _, rfl, dig_int (N.dig _ (List.getElem_mem hi)), (by show 1 ≤ 640; decide), _, hl2, by rw [List.length_map, List.length_take]; exact small1000 (by omega), ?_⟩
      refine ⟨same_mut sm2 hD, ?_⟩
      rw [upd_same, take_succ_map _ (List.getElem?_eq_getElem hi)]
    · obtain ⟨sm2, hl2⟩ := hP
      rw [numS_size, List.take_length] at hl2
      refine ⟨D, _, rfl, .inl ⟨SqL.of hl2, fun p hp => ?_⟩⟩
      exact k _ p ((s1.trans sm2).trans (same_new hp)) ((s1.trans sm2).free hp) upd_same
theorem ok_row_of (T : Txt K mg) : FnOk P w K mg base (L2.CX P w) 5 T.a_row_of T.d_row_of ["number"] (sp_row_of K T.CN) := by
  refine T.F_row_of.okX sc_row_of (fun vs H Q E h => ?_) (fun cdv A outer s H vs Q E hr h => ?_)
  · obtain ⟨x, d, rfl, _⟩ := h
    rfl
  · obtain ⟨x, d, rfl, ob, kS, kE⟩ := h
    refine ⟨_, (pss_cons (ps_set (i := 1) sc_row_of.nd rfl (Or.inl rfl) (pe_lst pa_nil))
      (pss_cons (ps_for (passes_of rfl) rfl (pi_tup (pe_callS (ok_blocks T) (hr.mono (by decide)) rfl T.g_blocks T.F_blocks.kp T.b_blocks (fun σ => passAt (takes_of rfl rfl rfl rfl) σ) (by exact (pa_cons (pv 0) pa_nil)))) (pg_name (i := 2) sc_row_of.nd rfl (Or.inl rfl))
        (pss_cons (ps_expr (pe_bm PySem.F.plainAttrs_list PySem.F.slot_list_extend PySem.F.type_list_extend mt_extend (pv 1) (pa_cons (pe_op op_rep (pe_lst (pa_cons pe_int (pa_cons pe_int pa_nil))) (pv 2)) pa_nil)))
        (pss_one (ps_expr (pe_bm PySem.F.plainAttrs_list PySem.F.slot_list_extend PySem.F.type_list_extend mt_extend (pv 1) (pa_cons (pe_lst (pa_cons pe_int (pa_cons pe_int pa_nil))) pa_nil))))))
      (pss_cons (ps_expr (pe_bm PySem.F.plainAttrs_list PySem.F.slot_list_extend PySem.F.type_list_extend mt_extend (pv 1) (pa_cons (pe_lst (pa_cons pe_int (pa_cons pe_int pa_nil))) pa_nil)))
      (pss_one (ps_ret (pe_callTy call_tuple_of (by rfl) T.z_tuple (by decide +kernel) (pa_cons (pv 1) pa_nil))))))), ?_⟩
    refine ⟨Nat.zero_le _, fun r hr0 => ?_⟩
    refine ⟨_, rfl, x, d, rfl, ob.keep (same_new hr0), fun ds N e H1 t s1 ht0 ht => ?_, fun n => (kE n).after (same_new hr0)⟩
    subst e
    have k := kS ds N rfl
    have hlen := N.len
    have hrt : r ≠ t := fun e => by
      rw [e] at hr0
      have := ne_of_none (upd_same (H := H) (a := r) (o := .lst [])) ht0
      exact this e
    have hr1 : H1 r = some (.lst []) := s1 _ _ upd_same
    have sH : Same H H1 := (same_new hr0).trans s1
    refine ⟨t, rfl, ⟨_, SqT.of ht⟩, ?_⟩
    refine for_tup (xs := ds.map fun (d : Nat) => V.int (d : Int)) (fun i σ H2 => ∃ v, σ = [some (.str (numS ds)), some (.ref r), v] ∧ Same H H2 ∧ H2 t = some (.tup (ds.map fun (d : Nat) => V.int (d : Int))) ∧ H2 r = some (.lst ((Wm.pre (ds.take i)).map V.int)))
      ⟨_, rfl, sH, ht, hr1⟩ (fun i σ H2 _ hP => ?_) (fun i x σ H2 hx hP => ?_) (fun σ H2 hP => ?_)
    · obtain ⟨v, rfl, _, h2, _⟩ := hP
      exact SqT.of h2
    · obtain ⟨v, rfl, sm, h2, h3⟩ := hP
      have hi : i < ds.length := by
        have := (List.getElem?_eq_some_iff.mp hx).1
        rw [List.length_map] at this
        exact this
      have ex : x = .int (ds[i] : Nat) := by
        rw [List.getElem?_map, List.getElem?_eq_getElem hi] at hx
        exact (Option.some.inj hx).symm
      subst ex
      have hd := N.dig _ (List.getElem_mem hi)
      have hp9 := pre_le (ds.take i) fun d m => (N.dig d (List.mem_of_mem_take m)).2
      rw [List.length_take] at hp9
      have hrn : H r = none := hr0
      -- row.extend([1, 0] * strokes)
      refine ⟨.ref r, rfl, .inl ⟨rfl, _, SqL.of h3⟩, by decide, fun a ha => ?_⟩
      refine ⟨_, rfl, a, _, _, rfl, rfl, upd_same, by omega, by omega, by rw [Int.toNat_natCast]; show 2 * ds[i] ≤ _; exact Nat.le_of_lt (small1000 (by omega)), fun b hb => ?_⟩
      rw [Int.toNat_natCast, blk_V]
      have ra : r ≠ a := ne_of_none h3 ha
      have rb : r ≠ b := ne_of_none (at_old h3 ha) hb
      refine ⟨r, b, _, _, rfl, rfl, at_old (at_old h3 ha) hb, upd_same, ?_, ?_⟩
      · rw [List.length_map, List.length_map, blk_len]
        exact Nat.le_of_lt (small1000 (by omega))
      -- row.extend([0, 0])
      have h4 : upd (upd (upd H2 a (.lst [.int 1, .int 0])) b (.lst ((blk ds[i]).map V.int))) r (.lst ((Wm.pre (ds.take i)).map V.int ++ (blk ds[i]).map V.int)) r = some (.lst ((Wm.pre (ds.take i)).map V.int ++ (blk ds[i]).map V.int)) := upd_same
      refine ⟨.ref r, rfl, .inl ⟨rfl, _, SqL.of h4⟩, by decide, fun c hc => ?_⟩
      refine ⟨r, c, _, _, rfl, rfl, at_old h4 hc, upd_same, ?_, ?_⟩
      · rw [List.length_append, List.length_map, List.length_map, blk_len]
        exact Nat.le_of_lt (small1000 (by simp only [List.length_cons, List.length_nil]; omega))
      refine ⟨_, rfl, ?_, ?_, ?_⟩
      · have s2 : Same H2 (upd (upd H2 a (.lst [.int 1, .int 0])) b (.lst ((blk ds[i]).map V.int))) := (same_new ha).trans (same_new hb)
        have s3 : Same H (upd (upd (upd H2 a (.lst [.int 1, .int 0])) b (.lst ((blk ds[i]).map V.int))) r (.lst ((Wm.pre (ds.take i)).map V.int ++ (blk ds[i]).map V.int))) := same_mut (sm.trans s2) hrn
        exact same_mut (s3.trans (same_new hc)) hrn
      · rw [upd_ne hrt.symm]
        refine at_old ?_ hc
        rw [upd_ne hrt.symm]
        exact at_old (at_old h2 ha) hb
      · rw [upd_same, take_succ_app (List.getElem?_eq_getElem hi), pre_app]
        simp only [List.map_append, List.append_assoc]
        rfl
    · obtain ⟨v, rfl, sm, h2, h3⟩ := hP
      rw [List.length_map, List.take_length] at h3
      have hp9 := pre_le ds fun d m => (N.dig d m).2
      refine ⟨.ref r, rfl, .inl ⟨rfl, _, SqL.of h3⟩, by decide, fun a ha => ?_⟩
      refine ⟨r, a, _, _, rfl, rfl, at_old h3 ha, upd_same, ?_, ?_⟩
      · rw [List.length_map]
        exact Nat.le_of_lt (small1000 (by simp only [List.length_cons, List.length_nil]; omega))
      refine ⟨.ref r, rfl, r, _, rfl, .inl ⟨SqL.of upd_same, fun p hp => ?_⟩⟩
      have s2 : Same H (upd (upd H2 a (.lst [.int 0, .int 0])) r (.lst ((Wm.pre ds).map V.int ++ [.int 0, .int 0]))) := same_mut (sm.trans (same_new ha)) hr0
      refine k _ p (s2.trans (same_new hp)) (s2.free hp) ?_
      rw [upd_same, ← pre_row ds, List.map_append]
      rfl
theorem ok_length_of (T : Txt K mg) : FnOk P w K mg base (L2.CX P w) 5 T.a_length_of T.d_length_of ["number"] (sp_length_of K T.CN) := by
  refine T.F_length_of.okX sc_length_of (fun vs H Q E h => ?_) (fun cdv A outer s H vs Q E hr h => ?_)
  · obtain ⟨x, d, rfl, _⟩ := h
    rfl
  · obtain ⟨x, d, rfl, ob, kS, kE⟩ := h
    refine ⟨_, (pss_cons (ps_set (i := 1) sc_length_of.nd rfl (Or.inl rfl) (pe_callS (ok_blocks T) (hr.mono (by decide)) rfl T.g_blocks T.F_blocks.kp T.b_blocks (fun σ => passAt (takes_of rfl rfl rfl rfl) σ) (by exact (pa_cons (pv 0) pa_nil))))
      (pss_one (ps_ret (pe_op op_mul pe_int (pe_op op_add (pe_op op_add (pe_callB (Hf.cr_sumA rfl) (by rfl) T.z_sum (by decide +kernel) (pa_cons (pv 1) pa_nil)) (pe_callB call_len_seq (by rfl) T.z_len PySem.boot_len (pa_cons (pv 1) pa_nil))) pe_int))))), ?_⟩
    refine ⟨_, rfl, x, d, rfl, ob, fun ds N e H1 p s1 p0 hp => ?_, fun n => kE n⟩
    subst e
    have k := kS ds N rfl
    have hlen := N.len
    have hs := N.sum
    refine ⟨_, rfl, p, ds.map fun (d : Nat) => (d : Int), rfl, .inr (SqT.of (by rw [hp, List.map_map]; rfl)), ?_⟩
    rw [sum_cast]
    refine ⟨_, rfl, p, _, rfl, .inr (SqT.of hp), _, _, rfl, rfl, _, _, rfl, rfl, 2, _, rfl, rfl, .inl ⟨by decide, by decide⟩, ?_⟩
    have e : (2 : Int) * (((ds.sum : Nat) : Int) + (((ds.map fun (d : Nat) => V.int (d : Int)).length : Nat) : Int) + 1) = (((rowL ds).length : Nat) : Int) := by
      rw [row_sum, List.length_map]
      omega
    show Q (V.int ((2 : Int) * (((ds.sum : Nat) : Int) + (((ds.map fun (d : Nat) => V.int (d : Int)).length : Nat) : Int) + 1))) H1
    rw [e]
    exact k _ s1
end
end K47

namespace K47
open PySem L2 Wm TL Dv
section
variable {P : Program} {w : World} {K : PySem.W.Frag} {mg : Str → Option Value} {base : Heap}
theorem made {H : Hp} {p dx C : Addr} (hp : H p = none) (hd : H dx = none) (ne : dx ≠ p) : Same H (upd (upd H dx (.own p)) p (.ins C dx [])) :=
  (same_new hd).trans (same_new (by rw [upd_ne (Ne.symm ne)]; exact hp))
theorem made_off {H H' : Hp} {p dx C : Addr} (hp : H p = none) (hd : H dx = none) (ne : dx ≠ p) (off : ∀ q o, q ≠ p → upd (upd H dx (.own p)) p (.ins C dx []) q = some o → H' q = some o) : Same H H' :=
  fun q o e => off q o (ne_of_none e hp) (made hp hd ne q o e)
theorem SI_len (ds : List Nat) : (SI ds).length ≤ (rowL ds).length := by
  have : ∀ (xs : List Int) (o : Nat), (ones o xs).length ≤ xs.length := by
    intro xs
    induction xs with
    | nil => exact fun o => Nat.le_refl _
    | cons x xs ih =>
      intro o
      have := ih (o + 1)
      unfold ones
      split
      · rw [List.length_cons, List.length_cons]; omega
      · rw [List.length_cons]; omega
  unfold SI
  rw [List.length_map]
  exact this _ _
theorem SI_sum : ∀ (ds : List Nat) (f : Nat), (ones f (rowL ds)).length = ds.sum
  | [], f => rfl
  | d :: ds, f => by
    have e : ones f (rowL (d :: ds)) = ones f (blk d) ++ ones (f + 2 * d + 2) (rowL ds) := by
      show ones f (blk d ++ ([0, 0] ++ rowL ds)) = _
      rw [ones_app, ones_app, blk_len]
      rfl
    have b : ∀ d, (ones f (blk d)).length = d := by
      intro d
      induction d with
      | zero => rfl
      | succ d ih => rw [ones_blk, List.length_append, ih]; rfl
    rw [e, List.length_append, b, SI_sum ds, List.sum_cons]
theorem SI_off {ds : List Nat} (N : Num ds) : Off (SI ds) := ⟨SI_up ds, fun n m => (SI_lt m).1, by
  have := SI_sum ds 0
  unfold SI
  rw [List.length_map, this]
  have := N.sum
  omega⟩
/-- the strokes up to a tick -/
def SIt (ds : List Nat) (i : Nat) : List Int := (ones 0 ((rowL ds).take i)).map fun (k : Nat) => (k : Int)
theorem SIt_succ {ds : List Nat} {i : Nat} {z : Int} (h : (rowL ds)[i]? = some z) : SIt ds (i + 1) = SIt ds i ++ (if z = 1 then [(i : Int)] else []) := by
  have hi := (List.getElem?_eq_some_iff.mp h).1
  unfold SIt
  rw [tk_succ h, ones_app, List.map_append, List.length_take, Nat.min_eq_left (by omega), Nat.zero_add]
  congr 1
  unfold ones
  by_cases c : z = 1
  · rw [if_pos c, if_pos c]; rfl
  · rw [if_neg c, if_neg c]; rfl
theorem SIt_all (ds : List Nat) : SIt ds (rowL ds).length = SI ds := by unfold SIt SI; rw [List.take_length]
theorem SIt_len (ds : List Nat) (i : Nat) : (SIt ds i).length ≤ (rowL ds).length := by
  have : ∀ (xs : List Int) (o : Nat), (ones o xs).length ≤ xs.length := by
    intro xs
    induction xs with
    | nil => exact fun o => Nat.le_refl _
    | cons x xs ih =>
      intro o
      have := ih (o + 1)
      unfold ones
      split
      · rw [List.length_cons, List.length_cons]; omega
      · rw [List.length_cons]; omega
  unfold SIt
  rw [List.length_map]
  refine Nat.le_trans (this _ _) ?_
  rw [List.length_take]
  omega
theorem ok_strokes_of (T : Txt K mg) : FnOk P w K mg base (L2.CX P w) 6 T.a_strokes_of T.d_strokes_of ["number"] (sp_strokes_of K T.C T.CN) := by
  refine T.F_strokes_of.okX sc_strokes_of (fun vs H Q E h => ?_) (fun cdv A outer s H vs Q E hr h => ?_)
  · obtain ⟨x, d, rfl, _⟩ := h
    rfl
  · obtain ⟨x, d, rfl, ob, k, er⟩ := h
    refine ⟨_, (pss_one (ps_ret (pe_make T.mk_init (ok_init T) (hr.mono (by decide)) (by rfl) T.gC T.b_init .nil pass0 (pa_cons (pe_lc (own := [("offset", 1), ("sign", 2)]) (g := gTup K 2 (gCons (gName 1) (gCons (gName 2) (gNil)))) rfl sc_strokes_of.nd (Es.pi_ent (by rfl) T.z_enumerate (pa_cons (pe_callS (ok_row_of T) (hr.mono (by decide)) rfl T.g_row_of T.F_row_of.kp T.b_row_of (fun σ => passAt (takes_of rfl rfl rfl rfl) σ) (by exact (pa_cons (pv 0) pa_nil))) pa_nil)) (blkOk_by (own := [("offset", 1), ("sign", 2)]) (N := nm_strokes_of) (sc := (defScope s_strokes_of)) (by decide +kernel)) (fun _ _ _ _ _ => (pg_tup rfl (pgs_cons (pg_name (i := 1) sc_strokes_of.nd rfl (Or.inl rfl)) (pgs_cons (pg_name (i := 2) sc_strokes_of.nd rfl (Or.inl rfl)) pgs_nil)))) (fun _ _ _ _ _ => (pts_one (pt_cmpR op_eq (pv 2) pe_int (nomark _)))) (fun _ _ _ _ _ => (pv 1))) pa_nil)))), ?_⟩
    refine ⟨_, rfl, x, d, rfl, ob, fun ds N e H1 t s1 t0 ht => ?_, fun n => er n⟩
    have k := k ds N e
    have rl := row_le ds N
    refine ⟨t, _, rfl, SqT.of ht, fun D hD => ?_⟩
    refine lc_it Es.walk_ent (fun i A => Same H1 A ∧ A D = some (.lst ((SIt ds i).map V.int))) ⟨same_new hD, upd_same⟩ (fun i A _ hP => SqT.of (hP.1 _ _ ht)) (fun i y A A' hi hP hY => ?_) (fun A hP => ?_)
    · obtain ⟨sm, hL⟩ := hP
      obtain ⟨tp, x1, x2, rfl, htp, rfl, e1, e2⟩ := hY
      cases e1
      have e2 : ((rowL ds).map V.int)[i]? = some x2 := e2
      rw [List.getElem?_map] at e2
      obtain ⟨z, hz, rfl⟩ := Option.map_eq_some_iff.mp e2
      have sB : Same H1 (upd A tp (.tup [.int (i : Nat), V.int z])) := sm.trans (same_new htp)
      have hL2 := at_old (u := .tup [.int (i : Nat), V.int z]) hL htp
      have su := SIt_succ hz
      have le := SIt_len ds i
      refine ⟨tp, _, rfl, SqT.of upd_same, rfl, _, _, rfl, _, _, rfl, rfl, rfl, ?_⟩
      generalize upd A tp (.tup [.int (i : Nat), V.int z]) = B at *
      refine ⟨_, rfl, rfl, _, rfl, ite2 (fun c => ?_) (fun c => ?_)⟩
      · have z1 : z = 1 := V.int.inj (of_decide_eq_true c)
        refine ⟨_, rfl, _, hL2, by rw [List.length_map]; exact small1000 (by omega), same_mut sB hD, ?_⟩
        rw [upd_same, su, if_pos z1, List.map_append]
        rfl
      · have z1 : z ≠ 1 := fun q => c (decide_eq_true (by rw [q]))
        refine ⟨sB, ?_⟩
        rw [su, if_neg z1, List.append_nil]
        exact hL2
    · obtain ⟨sm, hL⟩ := hP
      rw [List.length_map, SIt_all] at hL
      refine fun x2 dy hx hdy ne => ?_
      have m1 := made (C := T.C) hx hdy ne
      have O := SI_off N
      refine ⟨x2, dy, D, false, SI ds, rfl, upd_same, Kd.Is.lst (SqL.of (m1 _ _ hL)), O.lo, by have := O.few; omega, fun H' ns2 off so le sA => ⟨rfl, ?_⟩⟩
      have e := up_eq so.1 (SI_up ds) so.2
      subst e
      exact k _ x2 ((s1.trans sm).trans (made_off hx hdy ne off)) ((s1.trans sm).free hx) sA
end
end K47

namespace K47
open PySem L2 Wm TL Dv
section
variable {P : Program} {w : World} {K : PySem.W.Frag} {mg : Str → Option Value} {base : Heap}
theorem drop_new {H : Hp} {it : Addr} {o : HO} (h : H it = none) : ItX.dropH (upd H it o) it = H := by
  funext b
  by_cases c : b = it
  · rw [c, ItX.dropH_same, h]
  · rw [ItX.dropH_ne c, upd_ne c]
theorem SI_lens {ds : List Nat} (N : Num ds) : (SI ds).length = ds.sum := by
  unfold SI
  rw [List.length_map, SI_sum]
theorem row_pos {ds : List Nat} (N : Num ds) : 6 ≤ (rowL ds).length ∧ (rowL ds).length ≤ 60 := by
  have := N.pos
  have := N.len
  have := N.sum
  have e := row_sum ds
  have : 1 ≤ ds.sum := by
    cases ds with
    | nil => simp at *
    | cons d r =>
      have := (N.dig d List.mem_cons_self).1
      simp only [List.sum_cons]
      omega
  omega
theorem sLn_pos {ds : List Nat} (N : Num ds) : 6 ≤ sLn ds ∧ sLn ds ≤ 60 := by
  have := row_pos N
  unfold sLn
  omega
theorem repL_len (ds : List Nat) : ∀ n, (repL ds n).length = n * (rowL ds).length
  | 0 => by simp [repL]
  | n + 1 => by
    have ih := repL_len ds n
    unfold repL at ih ⊢
    rw [List.replicate_succ, List.flatten_cons, List.length_append, ih, Nat.succ_mul]
    omega
theorem repL_at {ds : List Nat} (h : 0 < (rowL ds).length) : ∀ (n k : Nat), (repL ds n)[k]? = if k < n * (rowL ds).length then (rowL ds)[k % (rowL ds).length]? else none
  | 0, k => by simp [repL]
  | n + 1, k => by
    have ih := repL_at h n (k - (rowL ds).length)
    have e : repL ds (n + 1) = rowL ds ++ repL ds n := by unfold repL; rw [List.replicate_succ, List.flatten_cons]
    rw [e, Nat.succ_mul]
    by_cases c : k < (rowL ds).length
    · rw [List.getElem?_append_left c, Nat.mod_eq_of_lt c, if_pos (by omega)]
    · rw [List.getElem?_append_right (by omega), ih, Nat.mod_eq_sub_mod (a := k) (by omega)]
      by_cases d : k - (rowL ds).length < n * (rowL ds).length
      · rw [if_pos d, if_pos (by omega)]
      · rw [if_neg d, if_neg (by omega)]
theorem si_mem {ds : List Nat} {k : Int} : k ∈ SI ds ↔ 0 ≤ k ∧ (rowL ds)[k.toNat]? = some 1 := by
  unfold SI
  rw [List.mem_map]
  constructor
  · rintro ⟨n, m, rfl⟩
    obtain ⟨j, e, h⟩ := (ones_mem _ _ _).mp m
    have : n = j := by omega
    subst this
    exact ⟨by omega, by simpa using h⟩
  · rintro ⟨h0, h⟩
    exact ⟨k.toNat, (ones_mem _ _ _).mpr ⟨k.toNat, by omega, h⟩, by omega⟩
theorem hasB_iff {ds : List Nat} {n : Nat} {o : Int} (N : Num ds) : hasB ds n o = true ↔ ∃ a : Nat, a < n ∧ ∃ s ∈ SI ds, o = (a : Int) * sLn ds + s := by
  have h := (row_pos N).1
  unfold hasB hasL
  rw [Bool.and_eq_true, Bool.and_eq_true, decide_eq_true_iff, decide_eq_true_iff, decide_eq_true_iff, repL_len, repL_at (by omega)]
  constructor
  · rintro ⟨h0, h1, h2⟩
    have h3 : o.toNat < n * (rowL ds).length := by omega
    rw [if_pos h3] at h2
    refine ⟨o.toNat / (rowL ds).length, Nat.div_lt_of_lt_mul (by rw [Nat.mul_comm]; exact h3), ((o.toNat % (rowL ds).length : Nat) : Int), si_mem.mpr ⟨by omega, by rw [Int.toNat_natCast]; exact of_decide_eq_true (decide_eq_true h2)⟩, ?_⟩
    have e := Nat.div_add_mod o.toNat (rowL ds).length
    have : ((o.toNat / (rowL ds).length : Nat) : Int) * sLn ds + ((o.toNat % (rowL ds).length : Nat) : Int) = (o.toNat : Int) := by
      unfold sLn
      rw [Int.mul_comm, ← Int.natCast_mul, ← Int.natCast_add, e]
    omega
  · rintro ⟨a, ha, s, ms, rfl⟩
    obtain ⟨s0, s1⟩ := si_mem.mp ms
    obtain ⟨s, rfl⟩ : ∃ m : Nat, s = (m : Int) := ⟨s.toNat, by omega⟩
    have sl := (List.getElem?_eq_some_iff.mp s1).1
    have e : (a : Int) * sLn ds + (s : Int) = ((a * (rowL ds).length + s : Nat) : Int) := by unfold sLn; simp
    have lt : a * (rowL ds).length + s < n * (rowL ds).length := by
      have : (a + 1) * (rowL ds).length ≤ n * (rowL ds).length := Nat.mul_le_mul_right _ ha
      rw [Nat.succ_mul] at this
      simp at sl
      omega
    rw [e]
    refine ⟨by omega, by omega, ?_⟩
    rw [Int.toNat_natCast, if_pos lt, Nat.mul_comm, Nat.mul_add_mod, Nat.mod_eq_of_lt (by simpa using sl)]
    simpa using s1
theorem hasB_row {ds : List Nat} {n : Nat} {o : Int} (N : Num ds) : hasB ds n o = (decide (0 ≤ o) && (decide (o < (n : Int) * ((rowL ds).length : Nat)) && decide ((rowL ds)[(o % ((rowL ds).length : Nat)).toNat]? = some 1))) := by
  have h := (row_pos N).1
  unfold hasB hasL
  rw [repL_len, repL_at (by omega)]
  have e : ((n * (rowL ds).length : Nat) : Int) = (n : Int) * ((rowL ds).length : Nat) := by simp
  rw [e]
  by_cases h0 : 0 ≤ o
  · by_cases h1 : o < (n : Int) * ((rowL ds).length : Nat)
    · have h3 : o.toNat < n * (rowL ds).length := by omega
      have e2 : (o % ((rowL ds).length : Nat)).toNat = o.toNat % (rowL ds).length := by
        obtain ⟨m, rfl⟩ : ∃ m : Nat, o = (m : Int) := ⟨o.toNat, by omega⟩
        rw [← Int.natCast_emod, Int.toNat_natCast, Int.toNat_natCast]
      rw [if_pos h3, e2]
    · simp [h1]
  · simp [h0]
theorem div_is {o i l : Int} (h : 0 < l) : o / l = i ↔ i * l ≤ o ∧ o < i * l + l := by
  rw [Int.ediv_eq_iff_of_pos h]
end
end K47

namespace K47
open PySem L2 Wm TL Dv
section
variable {P : Program} {w : World} {K : PySem.W.Frag} {mg : Str → Option Value} {base : Heap}
theorem blk_at (d : Nat) : ∀ j, j < d → (blk d)[2 * j]? = some 1 := fun j hj => by
  have h := (ones_blk_mem 0 (2 * j) d).mpr ⟨j, hj, by omega⟩
  obtain ⟨m, e, g⟩ := (ones_mem _ _ _).mp h
  have : m = 2 * j := by omega
  subst this
  exact g
theorem row_split (d : Nat) (es : List Nat) : rowL (d :: es) = blk d ++ ([0, 0] ++ rowL es) := rfl
theorem row_at_blk {d : Nat} {es : List Nat} {k : Nat} (h : k < 2 * d) : (rowL (d :: es))[k]? = (blk d)[k]? := by
  rw [row_split, List.getElem?_append_left (by rw [blk_len]; exact h)]
theorem row_at_rest {d : Nat} {es : List Nat} {k : Nat} (h : 2 * d + 2 ≤ k) : (rowL (d :: es))[k]? = (rowL es)[k - (2 * d + 2)]? := by
  rw [row_split, List.getElem?_append_right (by rw [blk_len]; omega), blk_len, List.getElem?_append_right (by simp only [List.length_cons, List.length_nil]; omega)]
  congr 1 <;> (simp only [List.length_cons, List.length_nil]; omega)
theorem row_at_mid {d : Nat} {es : List Nat} {k : Nat} (h : 2 * d ≤ k) (h2 : k < 2 * d + 2) : (rowL (d :: es))[k]? = some 0 := by
  rw [row_split, List.getElem?_append_right (by rw [blk_len]; exact h), blk_len, List.getElem?_append_left (by simp only [List.length_cons, List.length_nil]; omega)]
  have : k - 2 * d = 0 ∨ k - 2 * d = 1 := by omega
  rcases this with e | e <;> rw [e] <;> rfl
theorem row_cons_len (d : Nat) (es : List Nat) : (rowL (d :: es)).length = 2 * d + 2 + (rowL es).length := by
  rw [row_split, List.length_append, blk_len, List.length_append]
  simp only [List.length_cons, List.length_nil]
  omega
theorem row_two (es : List Nat) : 2 ≤ (rowL es).length := by
  rw [row_sum]
  omega
/-- no stroke among the last five ticks -/
theorem row_end : ∀ (es : List Nat) (k : Nat), (rowL es)[k]? = some 1 → k + 6 ≤ (rowL es).length
  | [], k, h => by
    have e : rowL [] = [0, 0] := rfl
    rw [e] at h
    match k, h with
    | 0, h => cases h
    | 1, h => cases h
    | k + 2, h => cases h
  | d :: es, k, h => by
    have l2 := row_two es
    rw [row_cons_len]
    by_cases c : k < 2 * d
    · rw [row_at_blk c] at h
      obtain ⟨j, hj, e⟩ := (ones_blk_mem 0 k d).mp ((ones_mem _ _ _).mpr ⟨k, by omega, h⟩)
      omega
    · by_cases c2 : k < 2 * d + 2
      · rw [row_at_mid (by omega) c2] at h
        cases h
      · rw [row_at_rest (by omega)] at h
        have := row_end es _ h
        omega
theorem row_first {d : Nat} {es : List Nat} (h : 1 ≤ d) : (rowL (d :: es))[0]? = some 1 := by
  rw [row_at_blk (by omega)]
  exact blk_at d 0 (by omega)
/-- of four ticks one is a stroke -/
theorem row_gap : ∀ (es : List Nat), (∀ d ∈ es, 1 ≤ d) → ∀ k, k + 6 ≤ (rowL es).length → ∃ u, k ≤ u ∧ u ≤ k + 3 ∧ (rowL es)[u]? = some 1
  | [], _, k, h => by
    have e : (rowL []).length = 2 := rfl
    omega
  | d :: es, hd, k, h => by
    have d1 := hd d List.mem_cons_self
    rw [row_cons_len] at h
    by_cases c : k ≤ 2 * (d - 1)
    · refine ⟨2 * ((k + 1) / 2), by omega, by omega, ?_⟩
      rw [row_at_blk (by omega)]
      exact blk_at d _ (by omega)
    · match es, hd, h with
      | [], _, h =>
        have e : (rowL []).length = 2 := rfl
        omega
      | e :: es, hd, h =>
        by_cases c2 : k ≤ 2 * d + 2
        · refine ⟨2 * d + 2, by omega, by omega, ?_⟩
          rw [row_at_rest (by omega), Nat.sub_self]
          exact row_first (hd e (by simp))
        · obtain ⟨u, u0, u1, hu⟩ := row_gap (e :: es) (fun x m => hd x (List.mem_cons_of_mem _ m)) (k - (2 * d + 2)) (by omega)
          refine ⟨u + (2 * d + 2), by omega, by omega, ?_⟩
          rw [row_at_rest (by omega), Nat.add_sub_cancel]
          exact hu
theorem row_bits : ∀ (es : List Nat) (k : Nat) (z : Int), (rowL es)[k]? = some z → z = 0 ∨ z = 1
  | [], k, z, h => by
    have e : rowL [] = [0, 0] := rfl
    rw [e] at h
    match k, h with
    | 0, h => exact .inl (Option.some.inj h).symm
    | 1, h => exact .inl (Option.some.inj h).symm
    | k + 2, h => cases h
  | d :: es, k, z, h => by
    by_cases c : k < 2 * d
    · rw [row_at_blk c] at h
      have bb : ∀ (d k : Nat), (blk d)[k]? = some z → z = 0 ∨ z = 1 := by
        intro d
        induction d with
        | zero => intro k h; simp [blk] at h
        | succ d ih =>
          intro k h
          have e : blk (d + 1) = [1, 0] ++ blk d := by simp [blk, List.replicate_succ]
          rw [e] at h
          match k, h with
          | 0, h => exact .inr (Option.some.inj h).symm
          | 1, h => exact .inl (Option.some.inj h).symm
          | k + 2, h => exact ih k h
      exact bb d k h
    · by_cases c2 : k < 2 * d + 2
      · rw [row_at_mid (by omega) c2] at h
        exact .inl (Option.some.inj h).symm
      · rw [row_at_rest (by omega)] at h
        exact row_bits es _ z h
theorem row_last {ds : List Nat} (N : Num ds) : (rowL ds)[(rowL ds).length - 6]? = some 1 := by
  have rp := (row_pos N).1
  obtain ⟨u, u0, u1, hu⟩ := row_gap ds (fun d m => (N.dig d m).1) ((rowL ds).length - 6) (by omega)
  have := row_end ds u hu
  have e : u = (rowL ds).length - 6 := by omega
  rw [← e]
  exact hu
theorem row_zero {ds : List Nat} (N : Num ds) : (rowL ds)[0]? = some 1 := by
  cases ds with
  | nil => have := N.pos; simp at this
  | cons d es => exact row_first (N.dig d List.mem_cons_self).1
/-- a tick of round i -/
theorem hasB_in {ds : List Nat} (N : Num ds) {n i v : Nat} (hi : i < n) (hv : v < (rowL ds).length) : hasB ds n ((i : Int) * sLn ds + (v : Int)) = decide ((rowL ds)[v]? = some 1) := by
  rw [hasB_row N]
  have e0 : (i : Int) * sLn ds + (v : Int) = ((i * (rowL ds).length + v : Nat) : Int) := by unfold sLn; simp
  have lt : i * (rowL ds).length + v < n * (rowL ds).length := by
    have : (i + 1) * (rowL ds).length ≤ n * (rowL ds).length := Nat.mul_le_mul_right _ hi
    rw [Nat.succ_mul] at this
    omega
  have e1 : ((n : Int) * ((rowL ds).length : Nat)) = ((n * (rowL ds).length : Nat) : Int) := by simp
  rw [e0, e1, decide_eq_true (by omega), decide_eq_true (by omega), ← Int.natCast_emod, Int.toNat_natCast, Nat.mul_comm, Nat.mul_add_mod, Nat.mod_eq_of_lt hv]
  rfl
theorem hasB_neg {ds : List Nat} {n : Nat} {o : Int} (h : o < 0) : hasB ds n o = false := by
  unfold hasB hasL
  rw [decide_eq_false (by omega)]
  rfl
theorem hasR_iff {es : List Nat} {o : Int} : hasL (rowL es) o = true ↔ 0 ≤ o ∧ (rowL es)[o.toNat]? = some 1 := by
  unfold hasL
  rw [Bool.and_eq_true, Bool.and_eq_true, decide_eq_true_iff, decide_eq_true_iff, decide_eq_true_iff]
  constructor
  · rintro ⟨a, _, b⟩
    exact ⟨a, b⟩
  · rintro ⟨a, b⟩
    have := (List.getElem?_eq_some_iff.mp b).1
    exact ⟨a, by omega, b⟩
theorem endJ_le (ds es : List Nat) (n : Nat) (a : Int) : endJ ds es n a ≤ (rowL es).length := by
  unfold endJ
  cases h : (List.range (rowL es).length).find? (endC ds es n a) with
  | none => exact Nat.le_refl _
  | some j => exact Nat.le_of_lt (List.mem_range.mp (List.mem_of_find?_eq_some h))
theorem endJ_before {ds es : List Nat} {n : Nat} {a : Int} {j : Nat} (h : j < endJ ds es n a) : endC ds es n a j = false := by
  have le := endJ_le ds es n a
  unfold endJ at h le
  cases e : (List.range (rowL es).length).find? (endC ds es n a) with
  | none =>
    have := List.find?_eq_none.mp e j (List.mem_range.mpr (by rw [e] at h; exact h))
    simpa using this
  | some m =>
    rw [e] at h
    have := (List.find?_range_eq_some.mp e).2.2 j h
    simpa using this
theorem endJ_at {ds es : List Nat} {n : Nat} {a : Int} (h : endJ ds es n a < (rowL es).length) : endC ds es n a (endJ ds es n a) = true := by
  unfold endJ at h ⊢
  cases e : (List.range (rowL es).length).find? (endC ds es n a) with
  | none => rw [e] at h; exact absurd h (Nat.lt_irrefl _)
  | some m => exact List.find?_some e
theorem endJ_is {ds es : List Nat} {n : Nat} {a : Int} {i : Nat} (hi : i < (rowL es).length) (h : endC ds es n a i = true) (b : ∀ j, j < i → endC ds es n a j = false) : endJ ds es n a = i := by
  unfold endJ
  rw [List.find?_range_eq_some.mpr ⟨h, List.mem_range.mpr hi, fun j hj => by rw [b j hj]; rfl⟩]
  rfl
theorem endJ_none {ds es : List Nat} {n : Nat} {a : Int} (b : ∀ j, j < (rowL es).length → endC ds es n a j = false) : endJ ds es n a = (rowL es).length := by
  unfold endJ
  rw [List.find?_eq_none.mpr fun j m => by rw [b j (List.mem_range.mp m)]; simp]
  rfl
theorem end_pos {ds es : List Nat} {n : Nat} {a : Int} (h : ShyAt es a) : 0 ≤ endO ds es n a := by
  obtain ⟨h1, h2⟩ := h
  unfold endO
  by_cases c : endJ ds es n a < (rowL es).length
  · have := endJ_at c
    unfold endC at this
    rw [Bool.and_eq_true] at this
    by_cases d : a + (endJ ds es n a : Int) < 0
    · rw [hasB_neg d] at this
      exact absurd this.2 (by simp)
    · omega
  · unfold sLn at h1
    omega
/-- ahead of its end the shy box has each stroke of the row -/
theorem end_has {ds es : List Nat} {n : Nat} {a o : Int} (h0 : a ≤ o) (h1 : o < endO ds es n a) (h : hasB ds n o = true) : hasL (rowL es) (o - a) = true := by
  have le := endJ_le ds es n a
  unfold endO at h1
  have lt : (o - a).toNat < (rowL es).length := by omega
  have f := endJ_before (ds := ds) (es := es) (n := n) (a := a) (j := (o - a).toNat) (by omega)
  unfold endC at f
  rw [show a + (((o - a).toNat : Nat) : Int) = o by omega, h, Bool.and_true] at f
  have f := of_decide_eq_false f
  refine hasR_iff.mpr ⟨by omega, ?_⟩
  have g := List.getElem?_eq_getElem lt
  rcases row_bits es _ _ g with z | z
  · exact absurd (by rw [g, z]) f
  · rw [g, z]
theorem mem_shyL {ds es : List Nat} {n : Nat} {a o : Int} : o ∈ shyL ds es n a ↔ o < endO ds es n a ∧ hasL (rowL es) (o - a) = true := by
  unfold shyL
  rw [List.mem_filter, decide_eq_true_iff, List.mem_map, hasR_iff]
  constructor
  · rintro ⟨⟨s, ms, rfl⟩, h⟩
    obtain ⟨s0, s1⟩ := si_mem.mp ms
    refine ⟨h, by omega, ?_⟩
    rw [show a + s - a = s by omega]
    exact s1
  · rintro ⟨h, g0, g1⟩
    exact ⟨⟨o - a, si_mem.mpr ⟨g0, g1⟩, by omega⟩, h⟩
theorem shyL_len {ds es : List Nat} {n : Nat} {a : Int} (M : Num es) : (shyL ds es n a).length ≤ 24 := by
  unfold shyL
  refine Nat.le_trans (List.length_filter_le _ _) ?_
  rw [List.length_map, SI_lens M]
  exact M.sum
theorem key_hit {ds es : List Nat} {n : Nat} {a : Int} (N : Num ds) : keyL ds n (shyL ds es n a) = spS ds es n a := by
  unfold keyL spS
  refine List.filter_congr fun i _ => ?_
  have hl := sLn_pos N
  unfold keyB hitS
  rw [Bool.eq_iff_iff, List.any_eq_true, List.any_eq_true]
  constructor
  · rintro ⟨o, mo, h⟩
    obtain ⟨o1, o2⟩ := mem_shyL.mp mo
    rw [Bool.and_eq_true, Bool.or_eq_true, decide_eq_true_iff, decide_eq_true_iff, div_is (by omega), div_is (by omega)] at h
    obtain ⟨h1, h2⟩ := h
    have b : i * sLn ds - 5 ≤ o ∧ o < i * sLn ds + sLn ds := by omega
    have eo : i * sLn ds - 5 + (((o - (i * sLn ds - 5)).toNat : Nat) : Int) = o := by omega
    refine ⟨(o - (i * sLn ds - 5)).toNat, List.mem_range.mpr (by unfold sLn at b ⊢; omega), ?_⟩
    unfold hitF
    rw [eo, o2, h1, decide_eq_true o1]
    rfl
  · rintro ⟨j, mj, h⟩
    have mj := List.mem_range.mp mj
    unfold hitF at h
    rw [Bool.and_eq_true, Bool.and_eq_true, decide_eq_true_iff] at h
    obtain ⟨h1, h2, h3⟩ := h
    refine ⟨_, mem_shyL.mpr ⟨h1, h2⟩, ?_⟩
    rw [h3, Bool.true_and, Bool.or_eq_true, decide_eq_true_iff, decide_eq_true_iff, div_is (by omega), div_is (by omega)]
    have : (j : Int) < sLn ds + 5 := by unfold sLn; omega
    omega
theorem hit_of {ds es : List Nat} {n : Nat} {a i o : Int} (h0 : i * sLn ds - 5 ≤ o) (h1 : o < i * sLn ds + sLn ds) (h2 : o < endO ds es n a) (h3 : hasL (rowL es) (o - a) = true) (h4 : hasB ds n o = false) : hitS ds es n a i = true := by
  unfold hitS
  rw [List.any_eq_true]
  have eo : i * sLn ds - 5 + (((o - (i * sLn ds - 5)).toNat : Nat) : Int) = o := by omega
  refine ⟨(o - (i * sLn ds - 5)).toNat, List.mem_range.mpr (by unfold sLn at h0 h1 ⊢; omega), ?_⟩
  unfold hitF
  rw [eo, h3, h4, decide_eq_true h2]
  rfl
theorem of_hit {ds es : List Nat} {n : Nat} {a i : Int} (h : hitS ds es n a i = true) : ∃ o, i * sLn ds - 5 ≤ o ∧ o < i * sLn ds + sLn ds ∧ o < endO ds es n a ∧ hasL (rowL es) (o - a) = true ∧ hasB ds n o = false := by
  unfold hitS at h
  rw [List.any_eq_true] at h
  obtain ⟨j, mj, h⟩ := h
  have mj := List.mem_range.mp mj
  unfold hitF at h
  rw [Bool.and_eq_true, Bool.and_eq_true, decide_eq_true_iff] at h
  obtain ⟨h1, h2, h3⟩ := h
  refine ⟨_, by omega, ?_, h1, h2, by simpa using h3⟩
  unfold sLn
  omega
/-- a stroke of the other among four ticks -/
theorem gap_of {es : List Nat} (M : Num es) {a o : Int} (h0 : a ≤ o) (h1 : o - a + 6 ≤ sLn es) : ∃ u, o ≤ u ∧ u ≤ o + 3 ∧ hasL (rowL es) (u - a) = true := by
  unfold sLn at h1
  obtain ⟨u, u0, u1, hu⟩ := row_gap es (fun d m => (M.dig d m).1) (o - a).toNat (by omega)
  refine ⟨a + (u : Int), by omega, by omega, hasR_iff.mpr ⟨by omega, ?_⟩⟩
  rw [show a + (u : Int) - a = (u : Int) by omega, Int.toNat_natCast]
  exact hu
theorem hit_down {ds es : List Nat} {n i : Nat} {a : Int} (N : Num ds) (M : Num es) (A : ShyAt es a) (hi : i + 1 < n) (h : hitS ds es n a ((i + 1 : Nat) : Int) = true) : hitS ds es n a (i : Nat) = true := by
  obtain ⟨o, o0, o1, o2, o3, o4⟩ := of_hit h
  have hl := sLn_pos N
  have rp := row_pos N
  have e1 : ((i + 1 : Nat) : Int) * sLn ds = (i : Int) * sLn ds + sLn ds := by rw [Int.natCast_add, Int.add_mul]; simp
  rw [e1] at o0 o1
  have i0 : 0 ≤ (i : Int) * sLn ds := Int.mul_nonneg (by omega) (by omega)
  by_cases c : o < (i : Int) * sLn ds + sLn ds
  · exact hit_of (by omega) c o2 o3 o4
  · have eL : sLn ds = ((rowL ds).length : Nat) := rfl
    have es' := (hasR_iff.mp o3)
    have le := row_end es _ es'.2
    obtain ⟨u, u0, u1, hu⟩ := gap_of M (a := a) (o := (i : Int) * sLn ds + sLn ds - 5) (by have := A.2; omega) (by unfold sLn at *; omega)
    refine hit_of (o := u) (by omega) (by omega) (by omega) hu ?_
    obtain ⟨v, hv⟩ : ∃ v : Nat, u = (i : Int) * sLn ds + (v : Int) := ⟨(u - (i : Int) * sLn ds).toNat, by omega⟩
    subst hv
    rw [hasB_in N (by omega) (by omega)]
    refine decide_eq_false fun z => ?_
    have := row_end ds v z
    omega
theorem hit_zero {ds es : List Nat} {n : Nat} {a : Int} (M : Num es) (A : ShyAt es a) (h : a < 0) : hitS ds es n a 0 = true := by
  have ep := end_pos (ds := ds) (n := n) A
  by_cases c : -5 ≤ a
  · refine hit_of (o := a) (by omega) (by have : (0 : Int) ≤ sLn ds := by unfold sLn; omega
                                          omega) (by omega) (hasR_iff.mpr ⟨by omega, ?_⟩) (hasB_neg h)
    rw [show (a - a).toNat = 0 by omega]
    exact row_zero M
  · obtain ⟨u, u0, u1, hu⟩ := gap_of M (a := a) (o := -5) (by omega) (by have := A.1; omega)
    have : (0 : Int) ≤ sLn ds := by unfold sLn; omega
    exact hit_of (o := u) (by omega) (by omega) (by omega) hu (hasB_neg (by omega))
/-- a filter of the first n that goes down is a beginning -/
theorem fil_range (f : Int → Bool) : ∀ n : Nat, (∀ i : Nat, i + 1 < n → f ((i + 1 : Nat) : Int) = true → f (i : Nat) = true) → ∃ k, k ≤ n ∧ ((List.range n).map fun (i : Nat) => (i : Int)).filter f = (List.range k).map (fun (i : Nat) => (i : Int)) ∧ ∀ i, k ≤ i → i < n → f (i : Nat) = false
  | 0, _ => ⟨0, Nat.le_refl _, rfl, fun i _ h => absurd h (Nat.not_lt_zero _)⟩
  | n + 1, h => by
    obtain ⟨k, k1, k2, k3⟩ := fil_range f n fun i hi => h i (by omega)
    have e : ((List.range (n + 1)).map fun (i : Nat) => (i : Int)).filter f = ((List.range n).map fun (i : Nat) => (i : Int)).filter f ++ (if f (n : Int) then [(n : Int)] else []) := by
      rw [List.range_succ, List.map_append, List.filter_append, List.map_singleton]
      congr 1
      by_cases h : f (n : Int) = true
      · rw [if_pos h, List.filter_cons_of_pos h, List.filter_nil]
      · rw [if_neg h, List.filter_cons_of_neg h, List.filter_nil]
    by_cases c : f (n : Int) = true
    · have kn : k = n := by
        by_cases q : k = n
        · exact q
        · obtain ⟨m, rfl⟩ : ∃ m, n = m + 1 := ⟨n - 1, by omega⟩
          have := h m (by omega) c
          rw [k3 m (by omega) (by omega)] at this
          cases this
      subst kn
      refine ⟨k + 1, Nat.le_refl _, ?_, fun i a b => absurd b (by omega)⟩
      rw [e, k2, if_pos c, List.range_succ, List.map_append]
      rfl
    · refine ⟨k, by omega, ?_, fun i a b => ?_⟩
      · rw [e, k2, if_neg c, List.append_nil]
      · by_cases q : i = n
        · subst q
          simpa using c
        · exact k3 i a (by omega)
theorem sp_range {ds es : List Nat} {n : Nat} {a : Int} (N : Num ds) (M : Num es) (A : ShyAt es a) (h1 : 1 ≤ n) : ∃ k, k ≤ n ∧ spS ds es n a = (List.range k).map (fun (i : Nat) => (i : Int)) ∧ (a < 0 → k ≠ 0) := by
  obtain ⟨k, k1, k2, k3⟩ := fil_range (hitS ds es n a) n fun i hi => hit_down N M A hi
  refine ⟨k, k1, k2, fun h z => ?_⟩
  have := k3 0 (by omega) (by omega)
  have q := hit_zero (ds := ds) (n := n) M A h
  rw [show ((0 : Nat) : Int) = 0 from rfl, q] at this
  cases this
end
end K47

namespace K47
open PySem L2 Wm TL Dv
section
variable {P : Program} {w : World} {K : PySem.W.Frag} {mg : Str → Option Value} {base : Heap}
theorem mem_offL {es : List Nat} {n : Nat} {a o : Int} (N : Num es) : o ∈ offL es n a ↔ hasB es n (o - a) = true := by
  rw [hasB_iff N]
  unfold offL
  rw [List.mem_flatMap]
  constructor
  · rintro ⟨i, mi, h⟩
    obtain ⟨s, ms, rfl⟩ := List.mem_map.mp h
    exact ⟨i, List.mem_range.mp mi, s, ms, by omega⟩
  · rintro ⟨i, hi, s, ms, e⟩
    exact ⟨i, List.mem_range.mpr hi, List.mem_map.mpr ⟨s, ms, by omega⟩⟩
theorem key_hitP {ds es : List Nat} {n : Nat} {a : Int} (N : Num ds) (M : Num es) : keyL ds n (offL es n a) = spL ds es n a := by
  unfold keyL spL
  refine List.filter_congr fun i _ => ?_
  have hl := sLn_pos N
  unfold keyB hitB
  rw [Bool.eq_iff_iff, List.any_eq_true, List.any_eq_true]
  constructor
  · rintro ⟨o, mo, h⟩
    rw [Bool.and_eq_true, Bool.or_eq_true, decide_eq_true_iff, decide_eq_true_iff, div_is (by omega), div_is (by omega)] at h
    obtain ⟨h1, h2⟩ := h
    have b : i * sLn ds - 5 ≤ o ∧ o < i * sLn ds + sLn ds := by omega
    have eo : i * sLn ds - 5 + (((o - (i * sLn ds - 5)).toNat : Nat) : Int) = o := by omega
    refine ⟨(o - (i * sLn ds - 5)).toNat, List.mem_range.mpr (by unfold sLn at b ⊢; omega), ?_⟩
    rw [eo, (mem_offL M).mp mo, h1]
    rfl
  · rintro ⟨j, mj, h⟩
    have mj := List.mem_range.mp mj
    rw [Bool.and_eq_true] at h
    obtain ⟨h1, h2⟩ := h
    refine ⟨_, (mem_offL M).mpr h1, ?_⟩
    rw [h2, Bool.true_and, Bool.or_eq_true, decide_eq_true_iff, decide_eq_true_iff, div_is (by omega), div_is (by omega)]
    have : (j : Int) < sLn ds + 5 := by unfold sLn; omega
    omega
theorem offL_len {es : List Nat} {n : Nat} {a : Int} (N : Num es) (hn : n ≤ 8) : (offL es n a).length ≤ 192 := by
  have e : ∀ m, ((List.range m).flatMap fun (i : Nat) => (SI es).map fun k => a + (i : Int) * sLn es + k).length = m * (SI es).length := by
    intro m
    induction m with
    | zero => simp
    | succ m ih => rw [List.range_succ, List.flatMap_append, List.length_append, ih, List.flatMap_singleton, List.length_map, Nat.succ_mul]
  unfold offL
  rw [e]
  have := SI_lens N
  have := N.sum
  have : n * (SI es).length ≤ 8 * 24 := Nat.mul_le_mul hn (by omega)
  omega
theorem offL_succ (es : List Nat) (n : Nat) (a : Int) : offL es (n + 1) a = offL es n a ++ (SI es).map fun k => a + (n : Int) * sLn es + k := by
  unfold offL
  rw [List.range_succ, List.flatMap_append, List.flatMap_singleton]
theorem row_even (es : List Nat) : ∃ m : Int, sLn es = 2 * m := ⟨(es.sum + es.length + 1 : Nat), by
  unfold sLn
  rw [row_sum]
  omega⟩
/-- strokes stand at even offsets -/
theorem hasB_even {ds : List Nat} {n : Nat} {o : Int} (N : Num ds) (h : hasB ds n o = true) : o % 2 = 0 := by
  obtain ⟨a, _, s, ms, rfl⟩ := (hasB_iff N).mp h
  obtain ⟨m, e⟩ := row_even ds
  have s2 := (SI_lt ms).2.2
  rw [e, ← Int.mul_assoc, Int.mul_comm (a : Int) 2, Int.mul_assoc]
  omega
theorem hasB_range {ds : List Nat} {n : Nat} {o : Int} (N : Num ds) (h : hasB ds n o = true) : 0 ≤ o ∧ o + 6 ≤ (n : Int) * sLn ds := by
  obtain ⟨a, ha, s, ms, rfl⟩ := (hasB_iff N).mp h
  obtain ⟨s0, s1⟩ := si_mem.mp ms
  have le := row_end ds _ s1
  have : ((a + 1 : Nat) : Int) * sLn ds ≤ (n : Int) * sLn ds := Int.mul_le_mul_of_nonneg_right (by omega) (by unfold sLn; omega)
  have e : ((a + 1 : Nat) : Int) * sLn ds = (a : Int) * sLn ds + sLn ds := by rw [Int.natCast_add, Int.add_mul]; simp
  have h0 : 0 ≤ (a : Int) * sLn ds := Int.mul_nonneg (by omega) (by unfold sLn; omega)
  unfold sLn at *
  omega
/-- of six ticks ahead of the last stroke one is a stroke -/
theorem pat_gap {es : List Nat} (M : Num es) {n : Nat} {k : Int} (h0 : 0 ≤ k) (h1 : k + 6 ≤ (n : Int) * sLn es) : ∃ u, k ≤ u ∧ u ≤ k + 5 ∧ hasB es n u = true := by
  have rp := row_pos M
  obtain ⟨k, rfl⟩ : ∃ m : Nat, k = (m : Int) := ⟨k.toNat, by omega⟩
  have e := Nat.div_add_mod k (rowL es).length
  have lt := Nat.mod_lt k (show 0 < (rowL es).length by omega)
  have h1' : k + 6 ≤ n * (rowL es).length := by
    have : (n : Int) * sLn es = ((n * (rowL es).length : Nat) : Int) := by unfold sLn; simp
    omega
  generalize k / (rowL es).length = c at e
  generalize k % (rowL es).length = r at e lt
  rw [Nat.mul_comm] at e
  have cn : c < n := by
    refine Nat.lt_of_not_le fun z => ?_
    have : n * (rowL es).length ≤ c * (rowL es).length := Nat.mul_le_mul_right _ z
    omega
  by_cases q : r + 6 ≤ (rowL es).length
  · obtain ⟨u, u0, u1, hu⟩ := row_gap es (fun d m => (M.dig d m).1) r q
    have ul := (List.getElem?_eq_some_iff.mp hu).1
    refine ⟨(c : Int) * sLn es + (u : Int), ?_, ?_, ?_⟩
    · have : (c : Int) * sLn es = ((c * (rowL es).length : Nat) : Int) := by unfold sLn; simp
      omega
    · have : (c : Int) * sLn es = ((c * (rowL es).length : Nat) : Int) := by unfold sLn; simp
      omega
    · rw [hasB_in M cn ul]
      exact decide_eq_true hu
  · have cn2 : c + 1 < n := by
      refine Nat.lt_of_not_le fun z => ?_
      have e3 : n * (rowL es).length ≤ (c + 1) * (rowL es).length := Nat.mul_le_mul_right _ z
      rw [Nat.succ_mul] at e3
      omega
    refine ⟨((c + 1 : Nat) : Int) * sLn es + ((0 : Nat) : Int), ?_, ?_, ?_⟩
    · have : ((c + 1 : Nat) : Int) * sLn es = ((c * (rowL es).length + (rowL es).length : Nat) : Int) := by unfold sLn; rw [Int.natCast_add, Int.add_mul]; simp
      omega
    · have : ((c + 1 : Nat) : Int) * sLn es = ((c * (rowL es).length + (rowL es).length : Nat) : Int) := by unfold sLn; rw [Int.natCast_add, Int.add_mul]; simp
      omega
    · rw [hasB_in M cn2 (by omega)]
      exact decide_eq_true (row_zero M)
theorem hitB_iff {ds es : List Nat} {n : Nat} {a i : Int} : hitB ds es n a i = true ↔ ∃ o, i * sLn ds - 5 ≤ o ∧ o < i * sLn ds + sLn ds ∧ hasB es n (o - a) = true ∧ hasB ds n o = false := by
  unfold hitB
  rw [List.any_eq_true]
  constructor
  · rintro ⟨j, mj, h⟩
    have mj := List.mem_range.mp mj
    rw [Bool.and_eq_true] at h
    refine ⟨_, by omega, ?_, h.1, by simpa using h.2⟩
    unfold sLn
    omega
  · rintro ⟨o, o0, o1, h1, h2⟩
    have eo : i * sLn ds - 5 + (((o - (i * sLn ds - 5)).toNat : Nat) : Int) = o := by omega
    refine ⟨(o - (i * sLn ds - 5)).toNat, List.mem_range.mpr (by unfold sLn at o0 o1 ⊢; omega), ?_⟩
    rw [eo, h1, h2]
    rfl
/-- how many rounds a plain pull spoils at best -/
def cntP (ds es : List Nat) (n : Nat) : Int := ((n : Int) * sLn es - 2) / sLn ds + 2
theorem hit_plain {ds es : List Nat} {n : Nat} (N : Num ds) (M : Num es) (h1 : 1 ≤ n) (i : Nat) : hitB ds es n (sLn ds - 1) (i : Int) = decide ((i : Int) < cntP ds es n) := by
  have lp := sLn_pos N
  have lq := sLn_pos M
  obtain ⟨m, em⟩ := row_even ds
  have odd : ∀ o, hasB es n (o - (sLn ds - 1)) = true → hasB ds n o = false := fun o h => by
    refine Bool.eq_false_iff.mpr fun z => ?_
    have e1 := hasB_even M h
    have e2 := hasB_even N z
    omega
  have nl : sLn es ≤ (n : Int) * sLn es := by
    have := Int.mul_le_mul_of_nonneg_right (show (1 : Int) ≤ (n : Int) by omega) (show 0 ≤ sLn es by omega)
    omega
  rw [Bool.eq_iff_iff, hitB_iff, decide_eq_true_iff]
  unfold cntP
  have dv : ∀ x : Int, x ≤ ((n : Int) * sLn es - 2) / sLn ds ↔ x * sLn ds ≤ (n : Int) * sLn es - 2 := fun x => Int.le_ediv_iff_mul_le (by omega)
  have e1 : ((i : Int) - 1) * sLn ds = (i : Int) * sLn ds - sLn ds := by rw [Int.sub_mul, Int.one_mul]
  have i0 : 0 ≤ (i : Int) * sLn ds := Int.mul_nonneg (by omega) (by omega)
  have d2 := dv ((i : Int) - 1)
  rw [e1] at d2
  constructor
  · rintro ⟨o, o0, o1, h, _⟩
    have r := hasB_range M h
    have : (i : Int) - 1 ≤ ((n : Int) * sLn es - 2) / sLn ds := d2.mpr (by omega)
    omega
  · intro h
    have h2 := d2.mp (by omega)
    by_cases c : (i : Int) * sLn ds - sLn ds - 4 ≤ 0
    · refine ⟨sLn ds - 1, by omega, by omega, ?_, odd _ ?_⟩
      all_goals
        rw [Int.sub_self]
        have := hasB_in M (n := n) (i := 0) (v := 0) (by omega) (by have := row_pos M; omega)
        rw [show ((0 : Nat) : Int) * sLn es + ((0 : Nat) : Int) = 0 by simp] at this
        rw [this]
        exact decide_eq_true (row_zero M)
    · obtain ⟨u, u0, u1, hu⟩ := pat_gap M (n := n) (k := (i : Int) * sLn ds - sLn ds - 4) (by omega) (by omega)
      have hu2 : hasB es n (u + (sLn ds - 1) - (sLn ds - 1)) = true := by rw [show u + (sLn ds - 1) - (sLn ds - 1) = u by omega]; exact hu
      exact ⟨u + (sLn ds - 1), by omega, by omega, hu2, odd _ hu2⟩
theorem fil_lt (c : Int) (h : 0 ≤ c) : ∀ n : Nat, ((List.range n).map fun (i : Nat) => (i : Int)).filter (fun i => decide (i < c)) = (List.range (min c.toNat n)).map fun (i : Nat) => (i : Int)
  | 0 => by simp
  | n + 1 => by
    rw [List.range_succ, List.map_append, List.filter_append, fil_lt c h n, List.map_singleton]
    by_cases q : (n : Int) < c
    · rw [List.filter_cons_of_pos (by simpa using q), List.filter_nil, Nat.min_eq_right (show n ≤ c.toNat by omega), Nat.min_eq_right (show n + 1 ≤ c.toNat by omega), List.range_succ, List.map_append]
      rfl
    · rw [List.filter_cons_of_neg (by simpa using q), List.filter_nil, List.append_nil, Nat.min_eq_left (show c.toNat ≤ n by omega), Nat.min_eq_left (show c.toNat ≤ n + 1 by omega)]
theorem cntP_pos {ds es : List Nat} {n : Nat} (N : Num ds) (M : Num es) (h1 : 1 ≤ n) : 2 ≤ cntP ds es n := by
  have lp := sLn_pos N
  have lq := sLn_pos M
  have nl : sLn es ≤ (n : Int) * sLn es := by
    have := Int.mul_le_mul_of_nonneg_right (show (1 : Int) ≤ (n : Int) by omega) (show 0 ≤ sLn es by omega)
    omega
  unfold cntP
  have := Int.ediv_nonneg (show 0 ≤ (n : Int) * sLn es - 2 by omega) (show 0 ≤ sLn ds by omega)
  omega
/-- the told offset spoils the first rounds -/
theorem sp_plain {ds es : List Nat} {n : Nat} (N : Num ds) (M : Num es) (h1 : 1 ≤ n) : spL ds es n (sLn ds - 1) = (List.range (min (cntP ds es n).toNat n)).map fun (i : Nat) => (i : Int) := by
  have c2 := cntP_pos (n := n) N M h1
  rw [← fil_lt (cntP ds es n) (by omega) n]
  unfold spL
  refine List.filter_congr fun i mi => ?_
  obtain ⟨m, _, rfl⟩ := List.mem_map.mp mi
  exact hit_plain N M h1 m
/-- no plain pull spoils rounds farther apart -/
theorem sp_apart {ds es : List Nat} {n : Nat} {a i j : Int} (N : Num ds) (M : Num es) (hi : i ∈ spL ds es n a) (hj : j ∈ spL ds es n a) : j - i < cntP ds es n := by
  have lp := sLn_pos N
  unfold spL at hi hj
  obtain ⟨o, o0, o1, h, _⟩ := hitB_iff.mp (List.mem_filter.mp hi).2
  obtain ⟨p, p0, p1, g, _⟩ := hitB_iff.mp (List.mem_filter.mp hj).2
  have r1 := hasB_range M h
  have r2 := hasB_range M g
  unfold cntP
  have e1 : (j - i - 1) * sLn ds = j * sLn ds - i * sLn ds - sLn ds := by rw [Int.sub_mul, Int.sub_mul, Int.one_mul]
  have : j - i - 1 ≤ ((n : Int) * sLn es - 2) / sLn ds := (Int.le_ediv_iff_mul_le (by omega)).mpr (by omega)
  omega
end
end K47

namespace K47
open PySem L2 Wm TL Dv
section
variable {P : Program} {w : World} {K : PySem.W.Frag} {mg : Str → Option Value} {base : Heap}
theorem fmod_in {x l : Int} (h : 0 < l) : 0 ≤ x % l ∧ x % l < l := ⟨Int.emod_nonneg x (by omega), Int.emod_lt_of_pos x h⟩
theorem y_in {x : Int} {l : Int} (h : 0 < l) (g : l ≤ 2147483648) : 0 ≤ x % l ∧ x % l < 2147483648 := by
  have := (fmod_in (x := x) h).2
  exact ⟨(fmod_in h).1, by omega⟩
theorem ok_open (T : Txt K mg) : FnOk P w K mg base CX0 1 T.a_open T.d_open ["_law_script"] (sp_open K) := by
  refine T.F_open.ok sc_open (fun vs H Q E h => ?_) (fun cdv A outer s H vs Q E hr h => ?_)
  · obtain ⟨a, ns, rfl, _⟩ := h
    rfl
  · obtain ⟨a, ns, rfl, hS, hlen, k⟩ := h
    refine ⟨_, (pss_one (ps_ret (pe_lst (pa_cons (pe_callTy call_list_of (by rfl) T.z_list (by decide +kernel) (pa_cons (pv 0) pa_nil)) (pa_cons pe_int (pa_cons pe_int (pa_cons pe_int (pa_cons pe_int pa_nil)))))))), ?_⟩
    refine ⟨_, rfl, a, _, rfl, .inl hS, fun p hp => ?_⟩
    refine ⟨by show 5 ≤ sizeLine; decide, fun b hb => ?_⟩
    exact k _ b ((same_new hp).trans (same_new hb)) ⟨p, 0, 0, 20011, 0, ns, upd_same, at_old upd_same hb, by decide, by decide, by decide, by decide, by decide, by decide⟩
theorem ok_draw (T : Txt K mg) : FnOk P w K mg base CX0 1 T.a_draw T.d_draw ["_law_state", "_law_many"] (sp_draw K) := by
  refine T.F_draw.ok sc_draw (fun vs H Q E h => ?_) (fun cdv A outer s H vs Q E hr h => ?_)
  · obtain ⟨b, n, lim, rfl, _⟩ := h
    rfl
  · obtain ⟨b, n, lim, rfl, l0, l1, ⟨c, k, x, y, z, ns, hb, hc, k0, x0, y0, y1, z0, zn⟩, hn, kk⟩ := h
    have hcb := bg_ne hb hc
    refine ⟨_, (pss_cons (ps_asg (pe_op op_add (pe_ix ix_list (pv 0) pe_int (fun _ _ => rfl)) pe_int) (pg_sub (pv 0) pe_int set_list))
      (C8.pss_cut (ps_if (PW.pt (pw_and (pt_cmpR op_eq (pe_ix ix_list (pv 0) pe_int (fun _ _ => rfl)) pe_int (nomark _)) (pw_and1 (pt_cmpR op_lt (pe_ix ix_list (pv 0) pe_int (fun _ _ => rfl)) (pe_callB call_len_seq (by rfl) T.z_len PySem.boot_len (pa_cons (pe_ix ix_list (pv 0) pe_int (fun _ _ => rfl)) pa_nil)) (nomark _)))))
        (pss_cons (ps_set (i := 2) sc_draw.nd rfl (Or.inl rfl) (pe_ix ix_list (pe_ix ix_list (pv 0) pe_int (fun _ _ => rfl)) (pe_ix ix_list (pv 0) pe_int (fun _ _ => rfl)) (fun _ _ => rfl)))
        (pss_cons (ps_asg (pe_op op_add (pe_ix ix_list (pv 0) pe_int (fun _ _ => rfl)) pe_int) (pg_sub (pv 0) pe_int set_list))
        (pss_cons (ps_asg (pe_op op_mod (pe_op op_add (pe_op op_add (pe_op op_mul (pe_ix ix_list (pv 0) pe_int (fun _ _ => rfl)) pe_int) (pe_op op_mod (pv 2) pe_int)) (pe_ix ix_list (pv 0) pe_int (fun _ _ => rfl))) pe_int) (pg_sub (pv 0) pe_int set_list))
        (pss_one (ps_if (PW.pt (pw_or (pt_cmpR op_ge (pv 2) (pe_op op_pow pe_int pe_int) (nomark _)) (pw_or1 (pt_cmpR op_le (pv 2) (pe_un un_neg (pe_op op_pow pe_int pe_int)) (nomark _)))))
          (pss_one (ps_asg (pe_callB call_abs (by rfl) T.z_abs (by decide +kernel) (pa_cons (pv 2) pa_nil)) (pg_sub (pv 0) pe_int set_list)))
          pss_nil)))))
        pss_nil)
      (pss_cons (ps_if (pt_cmpR op_gt (pe_ix ix_list (pv 0) pe_int (fun _ _ => rfl)) pe_int (nomark _))
        (pss_cons (ps_set (i := 3) sc_draw.nd rfl (Or.inl rfl) (pe_op op_mod (pe_ix ix_list (pv 0) pe_int (fun _ _ => rfl)) (pv 1)))
        (pss_cons (ps_asg (pe_op op_fdivW (pe_ix ix_list (pv 0) pe_int (fun _ _ => rfl)) (pv 1)) (pg_sub (pv 0) pe_int set_list))
        (pss_one (ps_ret (pv 3)))))
        pss_nil)
      (pss_cons (ps_asg (pe_op op_mod (pe_op op_add (pe_op op_add (pe_op op_mul (pe_ix ix_list (pv 0) pe_int (fun _ _ => rfl)) pe_int) (pe_op op_mul (pe_ix ix_list (pv 0) pe_int (fun _ _ => rfl)) pe_int)) pe_int) pe_int) (pg_sub (pv 0) pe_int set_list))
      (pss_one (ps_ret (pe_op op_mod (pe_op op_fdivW (pe_ix ix_list (pv 0) pe_int (fun _ _ => rfl)) pe_int) (pv 1)))))))), ?_⟩
    refine ⟨_, rfl, b, _, 4, _, rfl, rfl, SqL.of hb, atI_nat (j := 4) rfl, _, _, rfl, rfl, ?_⟩
    refine ⟨_, rfl, b, _, 4, 4, rfl, rfl, hb, rfl, ?_⟩
    have b1 : Bt b H (upd H b (.lst [.ref c, .int k, .int x, .int y, .int (z + 1)])) := Bt.set hb
    have hc1 : upd H b (.lst [.ref c, .int k, .int x, .int y, .int (z + 1)]) c = some (.lst (ns.map V.int)) := by rw [upd_ne hcb]; exact hc
    refine ⟨fun σ H1 => ∃ (k x y : Int) (vc : Option V), σ = [some (.ref b), some (.int lim), vc, none] ∧ 0 ≤ k ∧ 0 ≤ x ∧ 0 ≤ y ∧ y < 2147483648 ∧ Bt b H H1 ∧ H1 b = some (.lst [.ref c, .int k, .int x, .int y, .int (z + 1)]), ?_, ?_⟩
    · refine ⟨_, rfl, b, _, 2, _, rfl, rfl, SqL.of upd_same, atI_nat (j := 2) rfl, rfl, _, rfl, ite2 (fun h1 => ?_) (fun h1 => ?_)⟩
      · refine ⟨_, rfl, b, _, 1, _, rfl, rfl, SqL.of upd_same, atI_nat (j := 1) rfl, _, rfl, b, _, 0, _, rfl, rfl, SqL.of upd_same, atI_nat (j := 0) rfl, c, _, rfl, .inl (SqL.of hc1), _, _, rfl, rfl, _, rfl, ite2 (fun h2 => ?_) (fun h2 => ?_)⟩
        · have h3 := of_decide_eq_true h2
          rw [List.length_map] at h3
          have h4 : k.toNat < ns.length := by omega
          have g : (ns.map V.int)[k.toNat]? = some (.int ns[k.toNat]) := by rw [List.getElem?_map, List.getElem?_eq_getElem h4]; rfl
          refine ⟨_, rfl, b, _, 0, _, rfl, rfl, SqL.of upd_same, atI_nat (j := 0) rfl, _, rfl, b, _, 1, _, rfl, rfl, SqL.of upd_same, atI_nat (j := 1) rfl, c, _, k, _, rfl, rfl, SqL.of hc1, at_of (by omega) g, ?_⟩
          refine ⟨_, rfl, b, _, 1, _, rfl, rfl, SqL.of upd_same, atI_nat (j := 1) rfl, _, _, rfl, rfl, ?_⟩
          refine ⟨_, rfl, b, _, 1, 1, rfl, rfl, upd_same, rfl, ?_⟩
          refine ⟨_, rfl, b, _, 3, _, rfl, rfl, SqL.of upd_same, atI_nat (j := 3) rfl, _, _, rfl, rfl, .inr ⟨by decide, by decide⟩, ?_⟩
          refine ⟨_, rfl, _, _, rfl, rfl, (show (0 : Int) < 1000003 by decide), _, _, rfl, rfl, ?_⟩
          refine ⟨_, rfl, b, _, 4, _, rfl, rfl, SqL.of upd_same, atI_nat (j := 4) rfl, _, _, rfl, rfl, _, _, rfl, rfl, (show (0 : Int) < 2147483647 by decide), ?_⟩
          refine ⟨_, rfl, b, _, 3, 3, rfl, rfl, upd_same, rfl, ?_⟩
          have yy := y_in (x := y * 48271 + ns[k.toNat] % 1000003 + (z + 1)) (l := 2147483647) (by decide) (by decide)
          have b2 := (b1.trans (Bt.set (k' := k + 1) (x' := x) (y' := y) (z' := z + 1) upd_same)).trans (Bt.set (k' := k + 1) (x' := x) (y' := (y * 48271 + ns[k.toNat] % 1000003 + (z + 1)) % 2147483647) (z' := z + 1) upd_same)
          have a0 : (0 : Int) ≤ (if ns[k.toNat] < 0 then -ns[k.toNat] else ns[k.toNat]) := by split <;> omega
          refine ⟨_, rfl, _, _, rfl, rfl, ⟨by decide, by decide, by decide⟩, _, _, rfl, rfl, _, rfl, ite2 (fun h5 => ?_) (fun h5 => ?_)⟩
          · refine ⟨_, rfl, _, rfl, _, rfl, b, _, 2, 2, rfl, rfl, upd_same, rfl, ?_⟩
            exact ⟨k + 1, _, _, _, rfl, by omega, a0, yy.1, yy.2, b2.trans (Bt.set upd_same), upd_same⟩
          · refine ⟨_, rfl, _, _, rfl, rfl, ⟨by decide, by decide, by decide⟩, _, rfl, _, _, rfl, rfl, _, rfl, ite2 (fun h6 => ?_) (fun h6 => ?_)⟩
            · refine ⟨_, rfl, _, rfl, _, rfl, b, _, 2, 2, rfl, rfl, upd_same, rfl, ?_⟩
              exact ⟨k + 1, _, _, _, rfl, by omega, a0, yy.1, yy.2, b2.trans (Bt.set upd_same), upd_same⟩
            · exact ⟨k + 1, _, _, _, rfl, by omega, x0, yy.1, yy.2, b2, upd_same⟩
        · exact ⟨k, x, y, none, rfl, k0, x0, y0, y1, b1, upd_same⟩
      · exact ⟨k, x, y, none, rfl, k0, x0, y0, y1, b1, upd_same⟩
    · rintro σ H1 ⟨k, x, y, vc, rfl, k0, x0, y0, y1, but, hb⟩
      have hc2 : H1 c = some (.lst (ns.map V.int)) := but _ _ hcb hc
      refine ⟨_, rfl, b, _, 2, _, rfl, rfl, SqL.of hb, atI_nat (j := 2) rfl, _, _, rfl, rfl, _, rfl, ite2 (fun h1 => ?_) (fun h1 => ?_)⟩
      · refine ⟨_, rfl, b, _, 2, _, rfl, rfl, SqL.of hb, atI_nat (j := 2) rfl, _, rfl, _, _, rfl, rfl, l0, ?_⟩
        refine ⟨_, rfl, b, _, 2, _, rfl, rfl, SqL.of hb, atI_nat (j := 2) rfl, _, rfl, _, _, rfl, rfl, wide_div l0 (b := 100) (by omega) (by decide) (by decide), ?_⟩
        refine ⟨_, rfl, b, _, 2, 2, rfl, rfl, hb, rfl, ?_⟩
        refine ⟨_, rfl, kk _ _ (fmod_in l0).1 (fmod_in l0).2 ⟨c, k, _, y, z + 1, ns, upd_same, ?_, k0, Int.ediv_nonneg x0 (by omega), y0, y1, by omega, by omega⟩ (but.trans (Bt.set hb))⟩
        rw [upd_ne hcb]
        exact hc2
      · refine ⟨_, rfl, b, _, 3, _, rfl, rfl, SqL.of hb, atI_nat (j := 3) rfl, _, _, rfl, rfl, .inr ⟨by decide, by decide⟩, ?_⟩
        refine ⟨_, rfl, b, _, 4, _, rfl, rfl, SqL.of hb, atI_nat (j := 4) rfl, _, _, rfl, rfl, .inr ⟨by decide, by decide⟩, _, _, rfl, rfl, _, _, rfl, rfl, _, _, rfl, rfl, (show (0 : Int) < 2147483629 by decide), ?_⟩
        refine ⟨_, rfl, b, _, 3, 3, rfl, rfl, hb, rfl, ?_⟩
        have yy := y_in (x := y * 69621 + (z + 1) * 7919 + 17) (l := 2147483629) (by decide) (by decide)
        refine ⟨_, rfl, b, _, 3, _, rfl, rfl, SqL.of upd_same, atI_nat (j := 3) rfl, _, _, rfl, rfl, wide_div (by decide) (b := 100) (by decide) (by decide) (by decide), _, rfl, _, _, rfl, rfl, l0, ?_⟩
        refine kk _ _ (fmod_in l0).1 (fmod_in l0).2 ⟨c, k, x, _, z + 1, ns, upd_same, ?_, k0, x0, yy.1, yy.2, by omega, by omega⟩ (but.trans (Bt.set hb))
        rw [upd_ne hcb]
        exact hc2
end
end K47

namespace K47
open PySem L2 Wm TL Dv
section
variable {P : Program} {w : World} {K : PySem.W.Frag} {mg : Str → Option Value} {base : Heap}
theorem ok_is_sort (T : Txt K mg) : FnOk P w K mg base CX0 1 T.a_is_sort T.d_is_sort ["thing"] (sp_is_sort K) := by
  refine T.F_is_sort.ok sc_is_sort (fun vs H Q E h => ?_) (fun cdv A outer s H vs Q E hr h => ?_)
  · obtain ⟨b, rfl, _⟩ := h
    rfl
  · obtain ⟨b, rfl, k⟩ := h
    refine ⟨_, (pss_one (ps_ret (pe_cmpR op_in_seq (pv 0) (pe_tup (pa_cons (ClX.pe_cval (pe_glob (v := V.ref T.W) rfl T.gW rfl)) (pa_cons (ClX.pe_cval (pe_glob (v := V.ref T.W) rfl T.gW rfl)) pa_nil))) rfl))), ?_⟩
    refine ⟨_, rfl, T.W, T.mc, _, _, rfl, T.rd, T.vP, T.W, T.mc, _, _, rfl, T.rd, T.vS, by show 2 ≤ sizeLine; decide, fun t ht => ?_⟩
    refine ⟨t, _, rfl, .inr (SqT.of upd_same), rfl, rfl, ?_⟩
    have k := k _ (same_new (o := .tup [.str "plain", .str "shy"]) ht)
    cases b
    · exact k
    · exact k
theorem ok_check_called (T : Txt K mg) : FnOk P w K mg base CX0 2 T.a_check_called T.d_check_called ["number"] (sp_check_called K) := by
  refine T.F_check_called.ok sc_check_called (fun vs H Q E h => ?_) (fun cdv A outer s H vs Q E hr h => ?_)
  · obtain ⟨ds, rfl, _⟩ := h
    rfl
  · obtain ⟨ds, rfl, N, k⟩ := h
    have ob := ob_num (K := K) (H := H) N
    refine ⟨_, (pss_one (ps_if (pt_not (pt_val (pe_call (ok_is_number T) (hr.mono (by decide)) (by rfl) T.g_is_number T.F_is_number.kp T.b_is_number .nil pass0 (pa_cons (pv 0) pa_nil))))
        (pss_one ps_never)
        pss_nil)), ?_⟩
    refine ⟨_, rfl, _, _, rfl, ob, fun H1 b s1 hb => ⟨b, rfl, ?_⟩⟩
    rw [hb.mpr ⟨ds, N, rfl⟩]
    exact iteF (k _ s1)
theorem ok_check_sort (T : Txt K mg) : FnOk P w K mg base CX0 2 T.a_check_sort T.d_check_sort ["sort"] (sp_check_sort K) := by
  refine T.F_check_sort.ok sc_check_sort (fun vs H Q E h => ?_) (fun cdv A outer s H vs Q E hr h => ?_)
  · obtain ⟨b, rfl, _⟩ := h
    rfl
  · obtain ⟨b, rfl, k⟩ := h
    refine ⟨_, (pss_one (ps_if (pt_not (pt_val (pe_call (ok_is_sort T) (hr.mono (by decide)) (by rfl) T.g_is_sort T.F_is_sort.kp T.b_is_sort .nil pass0 (pa_cons (pv 0) pa_nil))))
        (pss_one ps_never)
        pss_nil)), ?_⟩
    exact ⟨_, rfl, b, rfl, fun H1 s1 => ⟨true, rfl, iteF (k _ s1)⟩⟩
theorem ok_check_rounds (T : Txt K mg) : FnOk P w K mg base CX0 3 T.a_check_rounds T.d_check_rounds ["rounds"] (sp_check_rounds K) := by
  refine T.F_check_rounds.ok sc_check_rounds (fun vs H Q E h => ?_) (fun cdv A outer s H vs Q E hr h => ?_)
  · obtain ⟨n, rfl, _⟩ := h
    rfl
  · obtain ⟨n, rfl, h1, h8, k⟩ := h
    refine ⟨_, (pss_one (ps_if (pt_not (pt_val (pe_call (ok_is_whole_within T) (hr.mono (by decide)) (by rfl) T.g_is_whole_within T.F_is_whole_within.kp T.b_is_whole_within .nil pass0 (pa_cons (pv 0) (pa_cons pe_int (pa_cons (pe_glob (v := V.int 8) rfl T.c_MOST_ROUNDS ⟨_, rfl⟩) pa_nil))))))
        (pss_one ps_never)
        pss_nil)), ?_⟩
    refine ⟨_, rfl, _, _, _, rfl, _, rfl, ?_⟩
    rw [show (decide ((1 : Int) ≤ (n : Nat)) && decide (((n : Nat) : Int) ≤ 8)) = true by rw [decide_eq_true (by omega), decide_eq_true (by omega)]; rfl]
    exact iteF k
theorem ok_has_stroke (T : Txt K mg) : FnOk P w K mg base CX0 1 T.a_has_stroke T.d_has_stroke ["row", "offset", "rounds"] (sp_has_stroke K) := by
  refine T.F_has_stroke.ok sc_has_stroke (fun vs H Q E h => ?_) (fun cdv A outer s H vs Q E hr h => ?_)
  · obtain ⟨p, o, n, ds, rfl, _⟩ := h
    rfl
  · obtain ⟨p, o, n, ds, rfl, hS, N, k⟩ := h
    have rp := row_pos N
    rw [hasB_row N] at k
    refine ⟨_, (pss_one (ps_ret (pe_and (pe_chain op_le op_lt pe_int (pv 1) (pe_op op_mul (pv 2) (pe_callB call_len_seq (by rfl) T.z_len PySem.boot_len (pa_cons (pv 0) pa_nil)))) (pe_one (pe_cmpR op_eq (pe_ix ix_tup (pv 0) (pe_op op_mod (pv 1) (pe_callB call_len_seq (by rfl) T.z_len PySem.boot_len (pa_cons (pv 0) pa_nil))) (fun _ _ => rfl)) pe_int (nomark _)))))), ?_⟩
    have hl : ((rowL ds).map V.int).length = (rowL ds).length := List.length_map ..
    refine ⟨_, rfl, _, _, rfl, rfl, _, rfl, ?_⟩
    cases e0 : decide ((0 : Int) ≤ o) with
    | false =>
      rw [e0] at k
      exact iteF ⟨false, rfl, iteF k⟩
    | true =>
      rw [e0] at k
      refine iteT ⟨_, rfl, _, rfl, p, _, rfl, .inr hS, ?_⟩
      rw [hl]
      refine ⟨_, _, rfl, rfl, .inr ⟨by omega, by omega⟩, _, _, rfl, rfl, _, rfl, ite2 (fun c1 => ?_) (fun c1 => ?_)⟩
      case refine_2 =>
        have e1 : decide (o < (n : Int) * ((rowL ds).length : Nat)) = false := Bool.eq_false_iff.mpr c1
        rw [e1] at k
        exact k
      · have e1 : decide (o < (n : Int) * ((rowL ds).length : Nat)) = true := c1
        rw [e1] at k
        have z0 : (0 : Int) < ((rowL ds).length : Nat) := by omega
        have m0 := fmod_in (x := o) z0
        refine ⟨_, rfl, _, rfl, _, rfl, p, _, rfl, .inr hS, ?_⟩
        rw [hl]
        obtain ⟨z, hz⟩ : ∃ z, (rowL ds)[(o % ((rowL ds).length : Nat)).toNat]? = some z := ⟨_, List.getElem?_eq_getElem (by omega)⟩
        rw [hz] at k
        refine ⟨_, _, rfl, rfl, z0, p, _, _, .int z, rfl, rfl, hS, at_of (Int.toNat_of_nonneg m0.1).symm (by rw [List.getElem?_map, hz]; rfl), rfl, ?_⟩
        rw [show decide (V.int z = V.int 1) = decide (some z = some 1) from decide_eq_decide.mpr ⟨fun e => by rw [V.int.inj e], fun e => by rw [Option.some.inj e]⟩]
        exact k
theorem ok_step_offset (T : Txt K mg) : FnOk P w K mg base CX0 6 T.a_step_offset T.d_step_offset ["number", "other", "at", "rounds"] (sp_step_offset K) := by
  refine T.F_step_offset.ok sc_step_offset (fun vs H Q E h => ?_) (fun cdv A outer s H vs Q E hr h => ?_)
  · obtain ⟨ds, es, a, n, rfl, _⟩ := h
    rfl
  · obtain ⟨ds, es, a, n, rfl, N, M, hn, k⟩ := h
    have rq := row_pos M
    refine ⟨_, (pss_cons (ps_set (i := 4) sc_step_offset.nd rfl (Or.inl rfl) (pe_call (ok_row_of T) (hr.mono (by decide)) (by rfl) T.g_row_of T.F_row_of.kp T.b_row_of .nil Mk1.passF (pa_cons (pv 0) pa_nil)))
      (pss_cons (ps_set (i := 5) sc_step_offset.nd rfl (Or.inl rfl) (pe_call (ok_row_of T) (hr.mono (by decide)) (by rfl) T.g_row_of T.F_row_of.kp T.b_row_of .nil Mk1.passF (pa_cons (pv 1) pa_nil)))
      (pss_cons (ps_for PassesOwn.never rfl (Es.pi_ent (by rfl) T.z_enumerate (pa_cons (pv 5) pa_nil)) (pg_tup rfl (pgs_cons (pg_name (i := 6) sc_step_offset.nd rfl (Or.inl rfl)) (pgs_cons (pg_name (i := 7) sc_step_offset.nd rfl (Or.inl rfl)) pgs_nil)))
        (pss_one (ps_if (PW.pt (pw_and (pt_cmpR op_eq (pv 7) pe_int (nomark _)) (pw_and1 (pt_val (pe_call (ok_has_stroke T) (hr.mono (by decide)) (by rfl) T.g_has_stroke T.F_has_stroke.kp T.b_has_stroke .nil pass0 (pa_cons (pv 4) (pa_cons (pe_op op_add (pv 2) (pv 6)) (pa_cons (pv 3) pa_nil))))))))
          (pss_one (ps_ret (pe_op op_add (pv 2) (pv 6))))
          pss_nil)))
      (pss_one (ps_ret (pe_op op_add (pv 2) (pe_callB call_len_seq (by rfl) T.z_len PySem.boot_len (pa_cons (pv 5) pa_nil)))))))), ?_⟩
    refine ⟨_, rfl, _, _, rfl, ob_num N, fun ds' N' e' H1 r s1 f1 hr => ?_, fun m => absurd ⟨ds, N, rfl⟩ m⟩
    have e0 : ds = ds' := numS_inj (V.str.inj e')
    subst e0
    refine ⟨_, rfl, _, _, rfl, ob_num M, fun es' M' e' H2 q s2 f2 hq => ?_, fun m => absurd ⟨es, M, rfl⟩ m⟩
    have e0 : es = es' := numS_inj (V.str.inj e')
    subst e0
    have hr := s2 _ _ hr
    have s12 := s1.trans s2
    refine ⟨_, rfl, q, _, rfl, SqT.of hq, ?_⟩
    refine for_it (Es.walk_ent (xs := (rowL es).map V.int)) (fun i σ A => ∃ v6 v7, σ = [some (.str (numS ds)), some (.str (numS es)), some (.int a), some (.int (n : Nat)), some (.ref r), some (.ref q), v6, v7] ∧ Same H2 A ∧ ∀ j, j < i → endC ds es n a j = false) ⟨none, none, rfl, Same.refl _, fun j hj => absurd hj (Nat.not_lt_zero _)⟩ (fun i σ A _ hP => ?_) (fun i y σ A A' hi hP hY => ?_) (fun σ A hP => ?_)
    · obtain ⟨_, _, _, sm, _⟩ := hP
      exact SqT.of (sm _ _ hq)
    · obtain ⟨v6, v7, rfl, sm, bef⟩ := hP
      obtain ⟨tp, x1, x2, rfl, htp, rfl, e1, e2⟩ := hY
      cases e1
      have e2 : ((rowL es).map V.int)[i]? = some x2 := e2
      rw [List.getElem?_map] at e2
      obtain ⟨z, hz, rfl⟩ := Option.map_eq_some_iff.mp e2
      have il := (List.getElem?_eq_some_iff.mp hz).1
      have st := same_new (o := .tup [.int (i : Nat), V.int z]) htp
      have sB := sm.trans st
      refine ⟨tp, _, rfl, SqT.of upd_same, rfl, _, _, rfl, _, _, rfl, rfl, ?_⟩
      generalize upd A tp (.tup [.int (i : Nat), V.int z]) = B at *
      refine ⟨_, rfl, rfl, _, rfl, ite2 (fun c => ?_) (fun c => ?_)⟩
      · have z0 : z = 0 := V.int.inj (of_decide_eq_true c)
        subst z0
        refine ⟨_, rfl, _, rfl, _, rfl, _, _, rfl, rfl, _, rfl, r, a + (i : Int), n, ds, rfl, SqT.of (sB _ _ hr), N, ?_⟩
        refine ⟨_, rfl, ite2 (fun c2 => ?_) (fun c2 => ?_)⟩
        · refine ⟨_, rfl, _, rfl, _, _, rfl, rfl, ?_⟩
          have e := endJ_is (ds := ds) (es := es) (n := n) (a := a) il (by unfold endC; rw [hz, c2]; rfl) bef
          have k := k _ (s12.trans sB)
          unfold endO at k
          rw [e] at k
          exact k
        · refine ⟨_, _, rfl, sB, fun j hj => ?_⟩
          by_cases q : j < i
          · exact bef j q
          · have : j = i := by omega
            subst this
            unfold endC
            rw [Bool.eq_false_iff.mpr c2, Bool.and_false]
      · refine ⟨_, _, rfl, sB, fun j hj => ?_⟩
        by_cases q : j < i
        · exact bef j q
        · have : j = i := by omega
          subst this
          unfold endC
          rw [hz, decide_eq_false (fun z0 => c (decide_eq_true (by rw [Option.some.inj z0]))), Bool.false_and]
    · obtain ⟨v6, v7, rfl, sm, bef⟩ := hP
      rw [List.length_map] at bef
      have k := k _ (s12.trans sm)
      unfold endO at k
      rw [endJ_none bef] at k
      refine ⟨_, rfl, _, rfl, q, _, rfl, .inr (SqT.of (sm _ _ hq)), ?_⟩
      rw [List.length_map]
      exact ⟨_, _, rfl, rfl, k⟩
theorem ok_is_sequence (T : Txt K mg) : FnOk P w K mg base CX0 1 T.a_is_sequence T.d_is_sequence ["thing"] (sp_is_sequence K) := by
  refine T.F_is_sequence.ok sc_is_sequence (fun vs H Q E h => ?_) (fun cdv A outer s H vs Q E hr h => ?_)
  · obtain ⟨p, xs, t, rfl, _⟩ := h
    rfl
  · obtain ⟨p, xs, t, rfl, hS, k⟩ := h
    refine ⟨_, (pss_one (ps_ret (pe_callB call_isiT (by rfl) T.z_isinstance (by decide +kernel) (pa_cons (pv 0) (pa_cons (pe_tup (pa_cons (pe_bltn (v := V.ty "list") (by rfl) T.z_list (by decide +kernel) rfl) (pa_cons (pe_bltn (v := V.ty "tuple") (by rfl) T.z_tuple (by decide +kernel) rfl) pa_nil))) pa_nil))))), ?_⟩
    refine ⟨_, rfl, by show 2 ≤ sizeLine; decide, fun t2 ht => ?_⟩
    have s1 : Same H (upd H t2 (.tup [.ty "list", .ty "tuple"])) := same_new ht
    cases t with
    | true =>
      refine ⟨_, t2, _, _, _, true, rfl, upd_same, .cons (.ty "list") (.cons (.ty "tuple") .nil), tyT (sameT s1 hS), kitAny_cons (b := false) (kit_ty (by decide +kernel)) (fun _ => kitAny_cons (b := true) (kit_ty (by decide +kernel)) (fun z => by cases z) (fun _ => rfl)) (fun z => by cases z), ?_⟩
      exact k _ s1
    | false =>
      refine ⟨_, t2, _, _, _, true, rfl, upd_same, .cons (.ty "list") (.cons (.ty "tuple") .nil), tyL (Hf.keepL s1 hS), kitAny_cons (b := true) (kit_ty (by decide +kernel)) (fun z => by cases z) (fun _ => rfl), ?_⟩
      exact k _ s1
end
end K47

namespace K47
open PySem L2 Wm TL Dv
section
variable {P : Program} {w : World} {K : PySem.W.Frag} {mg : Str → Option Value} {base : Heap}
theorem dig_log {d : Nat} (h : 1 ≤ d ∧ d ≤ 9) : ((d : Int)).natAbs.log2 < 1920 := by
  rcases dig_cases h with e | e | e | e | e | e | e | e | e <;> subst e <;> decide +kernel
theorem sum_snoc (ds : List Nat) (d : Nat) : (ds ++ [d]).sum = ds.sum + d := by
  rw [List.sum_append]
  simp
theorem len_snoc (ds : List Nat) (d : Nat) : (ds ++ [d]).length = ds.length + 1 := by simp
theorem dig_snoc {ds : List Nat} {d : Nat} (h : ∀ y ∈ ds, 1 ≤ y ∧ y ≤ 9) (g : 1 ≤ d ∧ d ≤ 9) : ∀ y ∈ ds ++ [d], 1 ≤ y ∧ y ≤ 9 := fun y m => by
  rcases List.mem_append.mp m with m | m
  · exact h y m
  · rw [List.mem_singleton.mp m]
    exact g
theorem ok_number (T : Txt K mg) : FnOk P w K mg base CX0 2 T.a_number T.d_number ["_law_state"] (sp_number K) := by
  refine T.F_number.ok sc_number (fun vs H Q E h => ?_) (fun cdv A outer s H vs Q E hr h => ?_)
  · obtain ⟨b, n, rfl, _⟩ := h
    rfl
  · obtain ⟨b, n, rfl, hbag, hn, kk⟩ := h
    refine ⟨_, (pss_cons (ps_set (i := 1) sc_number.nd rfl (Or.inl rfl) pe_str)
      (pss_cons (ps_if (pt_cmpR op_gt (pe_call (ok_draw T) (hr.mono (by decide)) (by rfl) T.g_draw T.F_draw.kp T.b_draw .nil pass0 (pa_cons (pv 0) (pa_cons pe_int pa_nil))) pe_int (nomark _))
        (pss_cons (ps_for PassesOwn.never rfl (pi_range1 (by rfl) T.z_range (pa_cons (pe_op op_add pe_int (pe_call (ok_draw T) (hr.mono (by decide)) (by rfl) T.g_draw T.F_draw.kp T.b_draw .nil pass0 (pa_cons (pv 0) (pa_cons pe_int pa_nil)))) pa_nil)) (pg_name (i := 2) sc_number.nd rfl (Or.inl rfl))
          (pss_one (ps_set (i := 1) sc_number.nd rfl (Or.inl rfl) (pe_op op_add_str (pv 1) (pe_callTy call_str_int (by rfl) T.z_str (by decide +kernel) (pa_cons (pe_op op_add pe_int (pe_call (ok_draw T) (hr.mono (by decide)) (by rfl) T.g_draw T.F_draw.kp T.b_draw .nil pass0 (pa_cons (pv 0) (pa_cons pe_int pa_nil)))) pa_nil))))))
        (pss_one (ps_ret (pv 1))))
        pss_nil)
      (pss_cons (ps_set (i := 3) sc_number.nd rfl (Or.inl rfl) (pe_op op_add pe_int (pe_call (ok_draw T) (hr.mono (by decide)) (by rfl) T.g_draw T.F_draw.kp T.b_draw .nil pass0 (pa_cons (pv 0) (pa_cons pe_int pa_nil)))))
      (pss_cons (ps_set (i := 4) sc_number.nd rfl (Or.inl rfl) pe_int)
      (pss_cons (ps_for PassesOwn.never rfl (pi_range1 (by rfl) T.z_range (pa_cons (pv 3) pa_nil)) (pg_name (i := 2) sc_number.nd rfl (Or.inl rfl))
        (pss_cons (ps_set (i := 5) sc_number.nd rfl (Or.inl rfl) (pe_op op_add pe_int (pe_call (ok_draw T) (hr.mono (by decide)) (by rfl) T.g_draw T.F_draw.kp T.b_draw .nil pass0 (pa_cons (pv 0) (pa_cons (pe_callB (call_min2 rfl) (by rfl) T.z_min (by decide +kernel) (pa_cons pe_int (pa_cons (pe_op op_sub (pv 4) (pe_op op_sub (pe_op op_sub (pv 3) pe_int) (pv 2))) pa_nil))) pa_nil)))))
        (pss_cons (ps_set (i := 4) sc_number.nd rfl (Or.inl rfl) (pe_op op_sub (pv 4) (pv 5)))
        (pss_one (ps_set (i := 1) sc_number.nd rfl (Or.inl rfl) (pe_op op_add_str (pv 1) (pe_callTy call_str_int (by rfl) T.z_str (by decide +kernel) (pa_cons (pv 5) pa_nil))))))))
      (pss_one (ps_ret (pv 1)))))))), ?_⟩
    refine ⟨_, rfl, b, n, 6, rfl, by decide, by omega, hbag, by omega, fun H1 d1 g0 g1 bag1 but1 => ?_⟩
    refine ⟨_, _, rfl, rfl, _, rfl, ite2 (fun c0 => ?_) (fun c0 => ?_)⟩
    · refine ⟨_, rfl, b, n + 1, 3, rfl, by decide, by omega, bag1, by omega, fun H2 d2 w0 w1 bag2 but2 => ?_⟩
      refine ⟨_, _, rfl, rfl, _, rfl, by omega, by omega, ?_⟩
      have m1 : 1 ≤ (1 + d2).toNat ∧ (1 + d2).toNat ≤ 3 := by omega
      refine for_range (fun i σ H' => ∃ (ds : List Nat) (vk : Option V), σ = [some (.ref b), some (.str (numS ds)), vk, none, none, none] ∧
        ds.length = i ∧ (∀ d ∈ ds, 1 ≤ d ∧ d ≤ 9) ∧ ds.sum ≤ 3 * i ∧ Bg H' b (n + 2 + i) ∧ Bt b H H')
        ⟨[], none, by rw [numS_nil] <;> rfl, rfl, fun _ m => absurd m (List.not_mem_nil), by decide, bag2, but1.trans but2⟩ (fun i σ H' hi hP => ?_) (fun σ H' hP => ?_)
      · obtain ⟨ds, vk, rfl, el, hd, hs, bag, but⟩ := hP
        refine ⟨_, rfl, _, rfl, b, n + 2 + i, 3, rfl, by decide, by omega, bag, by omega, fun H3 g q0 q1 bag4 but4 => ?_⟩
        obtain ⟨d, ed, hd9, hd3⟩ : ∃ d : Nat, (1 : Int) + g = (d : Nat) ∧ (1 ≤ d ∧ d ≤ 9) ∧ d ≤ 3 := ⟨(1 + g).toNat, by omega, by omega, by omega⟩
        refine ⟨_, _, rfl, rfl, ?_⟩
        (try dsimp only; rw [ed])
        refine ⟨_, rfl, dig_log hd9, _, _, rfl, rfl, ?_, ?_⟩
        · rw [dig_str hd9, numS_len, numS_len]
          exact Nat.le_of_lt (small1000 (by show ds.length + 1 ≤ 1000; omega))
        rw [dig_str hd9, numS_app]
        exact ⟨ds ++ [d], _, rfl, by rw [len_snoc, el], dig_snoc hd hd9, by rw [sum_snoc]; omega, bag4, but.trans but4⟩
      · obtain ⟨ds, vk, rfl, el, hd, hs, bag, but⟩ := hP
        refine ⟨_, rfl, kk _ ds ⟨by omega, by omega, hd, by omega⟩ (bag.mono (by omega)) but⟩
    · refine ⟨_, rfl, b, n + 1, 4, rfl, by decide, by omega, bag1, by omega, fun H2 d2 w0 w1 bag2 but2 => ?_⟩
      refine ⟨_, _, rfl, rfl, ?_⟩
      obtain ⟨many, em⟩ : ∃ many : Nat, (1 : Int) + d2 = (many : Nat) := ⟨(1 + d2).toNat, by omega⟩
      (try dsimp only; rw [em])
      have m1 : 1 ≤ many := by omega
      have m4 : many ≤ 4 := by omega
      refine ⟨_, rfl, _, rfl, by omega, by omega, ?_⟩
      rw [Int.toNat_natCast]
      refine for_range (fun i σ H' => ∃ (ds : List Nat) (vk vd : Option V), σ = [some (.ref b), some (.str (numS ds)), vk, some (.int (many : Nat)), some (.int (24 - (ds.sum : Nat))), vd] ∧
        ds.length = i ∧ (∀ d ∈ ds, 1 ≤ d ∧ d ≤ 9) ∧ ds.sum + (many - i) ≤ 24 ∧ Bg H' b (n + 2 + i) ∧ Bt b H H')
        ⟨[], none, none, by rw [numS_nil] <;> rfl, rfl, fun _ m => absurd m (List.not_mem_nil), by show 0 + (many - 0) ≤ 24; omega, bag2, but1.trans but2⟩ (fun i σ H' hi hP => ?_) (fun σ H' hP => ?_)
      · obtain ⟨ds, vk, vd, rfl, el, hd, hs, bag, but⟩ := hP
        have eL : ((24 : Int) - (ds.sum : Nat)) - ((many : Nat) - 1 - (0 + (i : Nat))) = ((24 - ds.sum - (many - 1 - i) : Nat) : Int) := by omega
        refine ⟨_, rfl, _, rfl, _, rfl, _, _, rfl, rfl, _, rfl, _, _, rfl, rfl, _, _, rfl, rfl, _, _, rfl, ?_⟩
        (try dsimp only; rw [eL])
        generalize hlim : (if ((24 - ds.sum - (many - 1 - i) : Nat) : Int) < 9 then ((24 - ds.sum - (many - 1 - i) : Nat) : Int) else 9) = lim
        have lim1 : 1 ≤ lim ∧ lim ≤ 9 ∧ lim ≤ ((24 - ds.sum - (many - 1 - i) : Nat) : Int) := by
          rw [← hlim]
          split <;> omega
        refine ⟨b, n + 2 + i, lim, rfl, by omega, by omega, bag, by omega, fun H3 g q0 q1 bag4 but4 => ?_⟩
        refine ⟨_, _, rfl, rfl, ?_⟩
        obtain ⟨d, ed, hd9, hsum⟩ : ∃ d : Nat, (1 : Int) + g = (d : Nat) ∧ (1 ≤ d ∧ d ≤ 9) ∧ ds.sum + d + (many - 1 - i) ≤ 24 := ⟨(1 + g).toNat, by omega, by omega, by omega⟩
        (try dsimp only; rw [ed])
        refine ⟨_, rfl, _, rfl, _, _, rfl, rfl, ?_⟩
        have e3 : (24 : Int) - (ds.sum : Nat) - (d : Nat) = 24 - ((ds ++ [d]).sum : Nat) := by rw [sum_snoc]; omega
        (try dsimp only; rw [e3])
        refine ⟨_, rfl, _, rfl, _, rfl, dig_log hd9, _, _, rfl, rfl, ?_, ?_⟩
        · rw [dig_str hd9, numS_len, numS_len]
          exact Nat.le_of_lt (small1000 (by show ds.length + 1 ≤ 1000; omega))
        rw [dig_str hd9, numS_app]
        exact ⟨ds ++ [d], _, _, rfl, by rw [len_snoc, el], dig_snoc hd hd9, by rw [sum_snoc]; omega, bag4, but.trans but4⟩
      · obtain ⟨ds, vk, vd, rfl, el, hd, hs, bag, but⟩ := hP
        refine ⟨_, rfl, kk _ ds ⟨by omega, by omega, hd, by omega⟩ (bag.mono (by omega)) but⟩
end
end K47

namespace K47
open PySem L2 Wm TL Dv
section
variable {P : Program} {w : World} {K : PySem.W.Frag} {mg : Str → Option Value} {base : Heap}
theorem ok_wwhole (T : Txt K mg) : FnOk P w K mg base CX0 1 T.a_wwhole T.d_wwhole ["_law_thing"] (sp_wwhole K) := by
  refine T.F_wwhole.ok sc_wwhole (fun vs H Q E h => ?_) (fun cdv A outer s H vs Q E hr h => ?_)
  · obtain ⟨i, rfl, _⟩ := h
    rfl
  · obtain ⟨i, rfl, k⟩ := h
    refine ⟨_, (pss_one (ps_ret (pe_and (pe_callB call_isi (by rfl) T.z_isinstance (by decide +kernel) (pa_cons (pv 0) (pa_cons (pe_bltn (v := V.ty "int") (by rfl) T.z_int (by decide +kernel) rfl) pa_nil))) (pe_one (pe_not (pe_callB call_isi (by rfl) T.z_isinstance (by decide +kernel) (pa_cons (pv 0) (pa_cons (pe_bltn (v := V.ty "bool") (by rfl) T.z_bool (by decide +kernel) rfl) pa_nil)))))))), ?_⟩
    refine ⟨_, rfl, _, _, _, _, true, rfl, .ty "int", .base (.int _), kit_ty (by decide +kernel), true, rfl, iteT ?_⟩
    exact ⟨_, rfl, _, _, _, _, false, rfl, .ty "bool", .base (.int _), kit_ty (by decide +kernel), false, rfl, k⟩
theorem num_one : Num [1] := ⟨by decide, by decide, fun d m => by rw [List.mem_singleton.mp m]; decide, by decide⟩
theorem num_two : Num [2] := ⟨by decide, by decide, fun d m => by rw [List.mem_singleton.mp m]; decide, by decide⟩
theorem one_s : numS [1] = ("1" : Str) := by decide +kernel
theorem two_s : numS [2] = ("2" : Str) := by decide +kernel
theorem ok_sends (T : Txt K mg) : FnOk P w K mg base CX0 2 T.a_sends T.d_sends ["_law_state"] (sp_sends K) := by
  refine T.F_sends.ok sc_sends (fun vs H Q E h => ?_) (fun cdv A outer s H vs Q E hr h => ?_)
  · obtain ⟨b, n, rfl, _⟩ := h
    rfl
  · obtain ⟨b, n, rfl, bag, hn, k⟩ := h
    refine ⟨_, (pss_cons (ps_if (pt_cmpR op_eq (pe_call (ok_draw T) (hr.mono (by decide)) (by rfl) T.g_draw T.F_draw.kp T.b_draw .nil pass0 (pa_cons (pv 0) (pa_cons pe_int pa_nil))) pe_int (nomark _))
        (pss_one (ps_ret (pe_op op_add pe_int (pe_call (ok_draw T) (hr.mono (by decide)) (by rfl) T.g_draw T.F_draw.kp T.b_draw .nil pass0 (pa_cons (pv 0) (pa_cons pe_int pa_nil))))))
        pss_nil)
      (pss_one (ps_ret (pe_op op_add pe_int (pe_call (ok_draw T) (hr.mono (by decide)) (by rfl) T.g_draw T.F_draw.kp T.b_draw .nil pass0 (pa_cons (pv 0) (pa_cons pe_int pa_nil))))))), ?_⟩
    refine ⟨_, rfl, b, n, 4, rfl, by decide, by omega, bag, by omega, fun H1 d d0 d4 bag1 but1 => ?_⟩
    refine ⟨rfl, _, rfl, ite2 (fun c => ?_) (fun c => ?_)⟩
    · refine ⟨_, rfl, b, n + 1, 8, rfl, by decide, by omega, bag1, by omega, fun H2 e e0 e8 bag2 but2 => ?_⟩
      have q := k H2 (1 + e).toNat (by omega) (by omega) bag2 (but1.trans but2)
      rw [show (((1 + e).toNat : Nat) : Int) = 1 + e by omega] at q
      exact ⟨_, _, rfl, rfl, q⟩
    · refine ⟨_, rfl, b, n + 1, 3, rfl, by decide, by omega, bag1, by omega, fun H2 e e0 e8 bag2 but2 => ?_⟩
      have q := k H2 (1 + e).toNat (by omega) (by omega) bag2 (but1.trans but2)
      rw [show (((1 + e).toNat : Nat) : Int) = 1 + e by omega] at q
      exact ⟨_, _, rfl, rfl, q⟩
end
end K47

namespace K47
open PySem L2 Wm TL Dv
section
variable {P : Program} {w : World} {K : PySem.W.Frag} {mg : Str → Option Value} {base : Heap}
theorem keyB_snoc (ds : List Nat) (n : Nat) (os : List Int) (o i : Int) : keyB ds n (os ++ [o]) i = (keyB ds n os i || (!hasB ds n o && (decide (o / sLn ds = i) || decide ((o + 5) / sLn ds = i)))) := by
  unfold keyB
  rw [List.any_append]
  simp
theorem keyR_succ (f : Int → Bool) (i : Nat) : (((List.range (i + 1)).map fun (i : Nat) => (i : Int)).filter f) = (((List.range i).map fun (i : Nat) => (i : Int)).filter f) ++ (if f (i : Int) then [(i : Int)] else []) := by
  rw [List.range_succ, List.map_append, List.filter_append, List.map_singleton]
  congr 1
  by_cases h : f (i : Int) = true
  · rw [if_pos h, List.filter_cons_of_pos h, List.filter_nil]
  · rw [if_neg h, List.filter_cons_of_neg h, List.filter_nil]
theorem keyR_len (f : Int → Bool) (i : Nat) : (((List.range i).map fun (i : Nat) => (i : Int)).filter f).length ≤ i := by
  refine Nat.le_trans (List.length_filter_le _ _) ?_
  rw [List.length_map, List.length_range]
  exact Nat.le_refl _
theorem fil_succ (f : Int → Bool) {xs : List Int} {i : Nat} {z : Int} (h : xs[i]? = some z) : (xs.take (i + 1)).filter f = (xs.take i).filter f ++ (if f z then [z] else []) := by
  rw [tk_succ h, List.filter_append]
  congr 1
  by_cases h : f z = true
  · rw [if_pos h, List.filter_cons_of_pos h, List.filter_nil]
  · rw [if_neg h, List.filter_cons_of_neg h, List.filter_nil]
theorem ok_given_offsets (T : Txt K mg) : FnOk P w K mg base CX0 7 T.a_given_offsets T.d_given_offsets ["number", "other", "sort", "at", "rounds"] (sp_given_offsets K) := by
  refine T.F_given_offsets.ok sc_given_offsets (fun vs H Q E h => ?_) (fun cdv A outer s H vs Q E hr h => ?_)
  · obtain ⟨ds, es, b, a, n, rfl, _⟩ := h
    rfl
  · obtain ⟨ds, es, b, a, n, rfl, N, M, hn, k⟩ := h
    refine ⟨_, (pss_cons (ps_set (i := 5) sc_given_offsets.nd rfl (Or.inr rfl) (pe_call (ok_strokes_of T) (hr.mono (by decide)) (by rfl) T.g_strokes_of T.F_strokes_of.kp T.b_strokes_of .nil Mk1.passF (pa_cons (pv 1) pa_nil)))
      (pss_cons (ps_if (pt_cmpR op_eq (pv 2) (ClX.pe_cval (pe_glob (v := V.ref T.W) rfl T.gW rfl)) (nomark _))
        (pss_cons (ps_set (i := 6) sc_given_offsets.nd rfl (Or.inr rfl) (pe_call (ok_step_offset T) (hr.mono (by decide)) (by rfl) T.g_step_offset T.F_step_offset.kp T.b_step_offset .nil pass0 (pa_cons (pv 0) (pa_cons (pv 1) (pa_cons (pv 3) (pa_cons (pv 4) pa_nil))))))
        (pss_one (ps_ret (pe_lc (own := [("offset", 7)]) (g := gName 7) rfl sc_given_offsets.nd (show PI _ _ _ (Li.iOwnT K T.C (spA_iter K T.C) E0 (tVar 5)) from Li.pi_ownT T.aIt T.iIt (okA_iter T) (hr.mono (by decide)) (pv 5)) (blkOk_by (own := [("offset", 7)]) (N := nm_given_offsets) (sc := (defScope s_given_offsets)) (by decide +kernel)) (fun _ _ _ _ _ => pg_name (i := 7) sc_given_offsets.nd rfl (Or.inl rfl)) (fun _ _ _ _ _ => (pts_one (pt_cmpR op_lt (pe_op op_add (pv 3) (pv 7)) (pv 6) (nomark _)))) (fun _ _ _ _ _ => (pe_op op_add (pv 3) (pv 7)))))))
        pss_nil)
      (pss_cons (ps_set (i := 8) sc_given_offsets.nd rfl (Or.inr rfl) (pe_call (ok_length_of T) (hr.mono (by decide)) (by rfl) T.g_length_of T.F_length_of.kp T.b_length_of .nil Mk1.passF (pa_cons (pv 1) pa_nil)))
      (pss_one (ps_ret (pe_lc2 (own := [("index", 9), ("offset", 7)]) (g := gName 9) (tt := tYes) (g1 := gName 7) (tt1 := tYes) (vs1 := [7]) rfl sc_given_offsets.nd (pi_range1 (by rfl) T.z_range (pa_cons (pv 4) pa_nil)) (blkOk_by (own := [("index", 9), ("offset", 7)]) (N := nm_given_offsets) (sc := (defScope s_given_offsets)) (by decide +kernel)) (by decide) (fun _ _ _ _ _ => pg_name (i := 9) sc_given_offsets.nd rfl (Or.inl rfl)) (fun _ _ _ _ _ => pts_nil) (fun _ _ _ _ _ => (show PI _ _ _ (Li.iOwnT K T.C (spA_iter K T.C) E0 (tVar 5)) from Li.pi_ownT T.aIt T.iIt (okA_iter T) (hr.mono (by decide)) (pv 5))) (fun _ _ _ _ _ => pg_name (i := 7) sc_given_offsets.nd rfl (Or.inl rfl)) (fun _ _ _ _ _ => pts_nil) (fun _ _ _ _ _ => (pe_op op_add (pe_op op_add (pv 3) (pe_op op_mul (pv 9) (pv 8))) (pv 7))))))))), ?_⟩
    refine ⟨_, rfl, _, _, rfl, ob_num M, fun es' M' e' H1 p s1 f1 hS => ?_, fun m => absurd ⟨es, M, rfl⟩ m⟩
    have e0 : es = es' := numS_inj (V.str.inj e')
    subst e0
    cases b with
    | true =>
      obtain ⟨dx, fs, q, hp, l1, l2, hq2⟩ := id hS
      refine ⟨_, rfl, T.W, T.mc, _, _, rfl, T.rd, T.vS, rfl, _, rfl, ?_⟩
      rw [show decide (V.str (srt true) = V.str "shy") = true from decide_eq_true rfl]
      refine iteT ?_
      refine ⟨_, rfl, _, rfl, _, rfl, _, rfl, ds, es, a, n, rfl, N, M, hn, fun H2 s2 => ?_⟩
      have s12 := s1.trans s2
      have hp := s2 _ _ hp
      have hq2 := sameT s2 hq2
      have ln := SI_lens M
      have sm0 := M.sum
      refine ⟨_, rfl, p, dx, fs, rfl, hp, fun m => ⟨p, q, SI es, rfl, ⟨dx, fs, hp, l1, hq2⟩, fun it f1 le => ⟨it, q, _, rfl, le, upd_same, sameT (same_new f1) hq2, ?_⟩⟩⟩
      rw [drop_new f1]
      refine fun D hD => ?_
      refine lc_it walk_tup (fun j B => Same H2 B ∧ SqT K B q ((SI es).map V.int) ∧ B D = some (.lst (((((SI es).map fun k => a + k).take j).filter fun o => decide (o < endO ds es n a)).map V.int))) ⟨same_new hD, sameT (same_new hD) hq2, upd_same⟩ (fun j B _ hP => hP.2.1) (fun j z B B' hj hP hY => ?_) (fun B hP => ?_)
      · obtain ⟨sB, sB2, hB⟩ := hP
        obtain ⟨rfl, hz⟩ := hY
        rw [List.getElem?_map] at hz
        obtain ⟨z0, hz0, rfl⟩ := Option.map_eq_some_iff.mp hz
        have jl := (List.getElem?_eq_some_iff.mp hz0).1
        have hz1 : ((SI es).map fun k => a + k)[j]? = some (a + z0) := by rw [List.getElem?_map, hz0]; rfl
        have le : ((((SI es).map fun k => a + k).take j).filter fun o => decide (o < endO ds es n a)).length ≤ 100 := by
          refine Nat.le_trans (List.length_filter_le _ _) ?_
          rw [List.length_take, List.length_map]
          omega
        refine ⟨rfl, ?_⟩
        refine ⟨_, rfl, _, rfl, _, _, rfl, rfl, _, rfl, _, _, rfl, rfl, _, rfl, ?_⟩
        rw [fil_succ _ hz1]
        refine ite2 (fun c => ?_) (fun c => ?_)
        · rw [if_pos c]
          refine ⟨_, rfl, _, rfl, _, _, rfl, rfl, _, hB, by rw [List.length_map]; exact small1000 (by omega), same_mut sB hD, sameT (same_mut sB hD) hq2, ?_⟩
          rw [upd_same, List.map_append]
          rfl
        · rw [if_neg c, List.append_nil]
          exact ⟨sB, sB2, hB⟩
      · obtain ⟨sB, sB2, hB⟩ := hP
        rw [List.length_map, ← List.length_map (f := fun k => a + k), List.take_length] at hB
        exact k _ D (s12.trans sB) (s12.free hD) hB
    | false =>
      obtain ⟨dx, fs, q, hp, l1, l2, hq2⟩ := id hS
      refine ⟨_, rfl, T.W, T.mc, _, _, rfl, T.rd, T.vS, rfl, _, rfl, iteN (decide_eq_false fun e => absurd (V.str.inj e) (by decide)) ?_⟩
      refine ⟨_, rfl, _, _, rfl, ob_num M, fun es' M' e' H2 s2 => ?_, fun m => absurd ⟨es, M, rfl⟩ m⟩
      have e0 : es = es' := numS_inj (V.str.inj e')
      subst e0
      have ln := offL_len (n := n) (a := a) M hn
      have sl := SI_lens M
      have sm0 := M.sum
      have rp := row_pos M
      have s12 := s1.trans s2
      have hp := s2 _ _ hp
      have hq2 := sameT s2 hq2
      refine ⟨_, rfl, n, rfl, by omega, by omega, fun D hD => ?_⟩
      refine Et.out_it walk_range (fun i A => Same H2 A ∧ A D = some (.lst ((offL es i a).map V.int))) ⟨same_new hD, upd_same⟩ (fun _ _ _ _ => trivial) (fun i y A A' hi hP hY => ?_) (fun A hP => ?_)
      · obtain ⟨sm, hL⟩ := hP
        obtain ⟨rfl, ey⟩ := hY
        have ey : y = .int (i : Nat) := by rw [ey]; exact congrArg V.int (Int.zero_add _)
        subst ey
        have hp := sm _ _ hp
        have hq := sameT sm hq2
        refine ⟨rfl, yesT ?_⟩
        refine ⟨_, rfl, p, dx, fs, rfl, hp, fun m => ⟨p, q, SI es, rfl, ⟨dx, fs, hp, l1, hq⟩, fun it f1 le => ⟨it, q, _, rfl, le, upd_same, sameT (same_new f1) hq, ?_⟩⟩⟩
        rw [drop_new f1]
        refine Et.in_it walk_tup (fun j B => Same H2 B ∧ SqT K B q ((SI es).map V.int) ∧ B D = some (.lst ((offL es i a ++ ((SI es).take j).map fun k => a + (i : Int) * sLn es + k).map V.int))) ⟨sm, hq, by simpa using hL⟩ (fun j B _ hP => hP.2.1) (fun j z B B' hj hP hY => ?_) (fun B hP => ?_)
        · obtain ⟨sB, sB2, hB⟩ := hP
          obtain ⟨rfl, hz⟩ := hY
          rw [List.getElem?_map] at hz
          obtain ⟨z0, hz0, rfl⟩ := Option.map_eq_some_iff.mp hz
          have li := offL_len (n := i) (a := a) M (by omega)
          have le : (offL es i a ++ ((SI es).take j).map fun k => a + (i : Int) * sLn es + k).length ≤ 960 := by
            rw [List.length_append, List.length_map, List.length_take]
            omega
          refine ⟨rfl, yesT ?_⟩
          refine ⟨_, rfl, _, rfl, _, rfl, _, _, rfl, rfl, .inl ⟨by omega, by omega⟩, _, _, rfl, rfl, _, rfl, _, _, rfl, rfl, _, hB, by rw [List.length_map]; exact small1000 (by omega), same_mut sB hD, ?_, ?_⟩
          · exact sameT (same_mut sB hD) hq2
          · rw [upd_same, tk_succ hz0]
            simp only [List.map_append, List.append_assoc]
            rfl
        · obtain ⟨sB, sB2, hB⟩ := hP
          rw [List.length_map, List.take_length, ← offL_succ] at hB
          exact ⟨sB, hB⟩
      · obtain ⟨sm, hL⟩ := hP
        have e : ((n : Nat) : Int).toNat = n := Int.toNat_natCast n
        exact k _ D (s12.trans sm) (s12.free hD) hL
theorem ok_spoilt_rounds (T : Txt K mg) : FnOk P w K mg base CX0 6 T.a_spoilt_rounds T.d_spoilt_rounds ["number", "offsets", "rounds"] (sp_spoilt_rounds K) := by
  refine T.F_spoilt_rounds.ok sc_spoilt_rounds (fun vs H Q E h => ?_) (fun cdv A outer s H vs Q E hr h => ?_)
  · obtain ⟨ds, p, n, os, rfl, _⟩ := h
    rfl
  · obtain ⟨ds, p, n, os, rfl, N, hn, hS, hlen, k⟩ := h
    have rp := row_pos N
    have z0 : (0 : Int) < ((rowL ds).length : Nat) := by omega
    have zl : (((rowL ds).length : Nat) : Int) = sLn ds := rfl
    refine ⟨_, (pss_cons (ps_set (i := 3) sc_spoilt_rounds.nd rfl (Or.inl rfl) (pe_call (ok_row_of T) (hr.mono (by decide)) (by rfl) T.g_row_of T.F_row_of.kp T.b_row_of .nil Mk1.passF (pa_cons (pv 0) pa_nil)))
      (pss_cons (ps_set (i := 4) sc_spoilt_rounds.nd rfl (Or.inr rfl) pe_dnewK)
      (pss_cons (ps_for PassesOwn.never rfl (pi_list (pv 1)) (pg_name (i := 5) sc_spoilt_rounds.nd rfl (Or.inl rfl))
        (pss_one (ps_if (pt_not (pt_val (pe_call (ok_has_stroke T) (hr.mono (by decide)) (by rfl) T.g_has_stroke T.F_has_stroke.kp T.b_has_stroke .nil pass0 (pa_cons (pv 3) (pa_cons (pv 5) (pa_cons (pv 2) pa_nil))))))
          (pss_cons (ps_dput (Nat.lt_of_le_of_lt (Nat.add_le_add_left (by decide : 1 ≤ 64) _) hr.units) (pv 4) (pe_op op_fdivW (pv 5) (pe_callB call_len_seq (by rfl) T.z_len PySem.boot_len (pa_cons (pv 3) pa_nil))) pe_bl rfl)
          (pss_one (ps_dput (Nat.lt_of_le_of_lt (Nat.add_le_add_left (by decide : 1 ≤ 64) _) hr.units) (pv 4) (pe_op op_fdivW (pe_op op_add (pv 5) (pe_glob (v := V.int 5) rfl T.c_CLOSED_END ⟨_, rfl⟩)) (pe_callB call_len_seq (by rfl) T.z_len PySem.boot_len (pa_cons (pv 3) pa_nil))) pe_bl rfl)))
          pss_nil)))
      (pss_one (ps_ret (pe_callTy call_tuple_of (by rfl) T.z_tuple (by decide +kernel) (pa_cons (pe_lc (own := [("index", 6)]) (g := gName 6) rfl sc_spoilt_rounds.nd (pi_range1 (by rfl) T.z_range (pa_cons (pv 2) pa_nil)) (blkOk_by (own := [("index", 6)]) (N := nm_spoilt_rounds) (sc := (defScope s_spoilt_rounds)) (by decide +kernel)) (fun _ _ _ _ _ => pg_name (i := 6) sc_spoilt_rounds.nd rfl (Or.inl rfl)) (fun _ _ _ _ _ => (pts_one (pt_cmp (pc_din (Nat.lt_of_le_of_lt (Nat.add_le_add_left (by decide : 1 ≤ 64) _) hr.units) (pv 6) (pv 4))))) (fun _ _ _ _ _ => (pv 6))) pa_nil))))))), ?_⟩
    refine ⟨_, rfl, _, _, rfl, ob_num N, fun ds' N' e' H1 r s1 f1 hr => ?_, fun m => absurd ⟨ds, N, rfl⟩ m⟩
    have e0 : ds = ds' := numS_inj (V.str.inj e')
    subst e0
    refine fun d hd => ?_
    have hl : ((rowL ds).map V.int).length = (rowL ds).length := List.length_map ..
    have hS0 := Hf.keepL (same_new (o := .dK []) hd) (Hf.keepL s1 hS)
    have sd : Same H (upd H1 d (.dK [])) := s1.trans (same_new hd)
    have fd := s1.free hd
    refine ⟨_, rfl, p, rfl, ⟨_, hS0⟩, ?_⟩
    refine for_list (xs := os.map V.int) (fun i σ A => ∃ vo vi, σ = [some (.str (numS ds)), some (.ref p), some (.int (n : Nat)), some (.ref r), some (.ref d), vo, vi] ∧ Same H1 A ∧ ∃ kvs, A d = some (.dK kvs) ∧ kvs.length ≤ 2 * i ∧ ∀ j : Int, (valV kvs (.inl j)).isSome = keyB ds n (os.take i) j)
      ⟨none, none, rfl, same_new hd, [], upd_same, Nat.le_refl _, fun j => rfl⟩ (fun i σ A _ hP => ?_) (fun i x σ A hx hP => ?_) (fun σ A hP => ?_)
    · obtain ⟨vo, vi, rfl, sm, _⟩ := hP
      exact Hf.keepL (s1.trans sm) hS
    · obtain ⟨vo, vi, rfl, sm, kvs, hk, lk, kk⟩ := hP
      rw [List.getElem?_map] at hx
      obtain ⟨o, ho, rfl⟩ := Option.map_eq_some_iff.mp hx
      have hi := (List.getElem?_eq_some_iff.mp ho).1
      have hrA := sm _ _ hr
      refine ⟨_, rfl, _, rfl, _, rfl, r, o, n, ds, rfl, SqT.of hrA, N, _, rfl, ?_⟩
      have kt : ∀ j, keyB ds n (os.take (i + 1)) j = (keyB ds n (os.take i) j || (!hasB ds n o && (decide (o / sLn ds = j) || decide ((o + 5) / sLn ds = j)))) := fun j => by rw [tk_succ ho, keyB_snoc]
      cases e : hasB ds n o with
      | true =>
        refine iteF ⟨_, _, rfl, sm, kvs, hk, by omega, fun j => ?_⟩
        rw [kt, e, kk j]
        simp
      | false =>
        refine iteT ?_
        refine ⟨_, rfl, _, rfl, _, rfl, r, _, rfl, .inr (SqT.of hrA), ?_⟩
        rw [hl]
        refine ⟨_, _, rfl, rfl, wide_div z0 (b := 100) (by omega) (by decide) (by decide), d, _, rfl, DPut.k (k := .inl (o / sLn ds)) hk (Nat.lt_of_le_of_lt lk (small1000 (by omega))), ?_⟩
        have l1 := length_putK kvs (.inl (o / sLn ds)) (.bl true)
        have sm1 := same_mut (o := .dK (putK kvs (.inl (o / sLn ds)) (.bl true))) sm hd
        have hr1 := sm1 _ _ hr
        have hk1 : upd A d (.dK (putK kvs (.inl (o / sLn ds)) (.bl true))) d = _ := upd_same
        refine ⟨_, rfl, _, rfl, _, _, rfl, rfl, _, rfl, r, _, rfl, .inr (SqT.of hr1), ?_⟩
        rw [hl]
        refine ⟨_, _, rfl, rfl, wide_div z0 (b := 100) (by omega) (by decide) (by decide), d, _, rfl, DPut.k (k := .inl ((o + 5) / sLn ds)) hk1 (Nat.lt_of_le_of_lt l1 (small1000 (by omega))), ?_⟩
        have l2 := length_putK (putK kvs (.inl (o / sLn ds)) (.bl true)) (.inl ((o + 5) / sLn ds)) (.bl true)
        refine ⟨_, _, rfl, same_mut sm1 hd, _, upd_same, by omega, fun j => ?_⟩
        rw [kt, e, valV_put, valV_put, ← kk j]
        by_cases c1 : (o + 5) / sLn ds = j
        · rw [if_pos (by rw [c1]), decide_eq_true c1]
          simp
        · rw [if_neg (fun z => c1 (Sum.inl.inj z).symm), decide_eq_false c1]
          by_cases c2 : o / sLn ds = j
          · rw [if_pos (by rw [c2]), decide_eq_true c2]
            simp
          · rw [if_neg (fun z => c2 (Sum.inl.inj z).symm), decide_eq_false c2]
            simp
    · obtain ⟨vo, vi, rfl, sm, kvs, hk, lk, kk⟩ := hP
      rw [List.length_map, List.take_length] at kk
      refine ⟨_, rfl, n, rfl, by omega, by omega, fun D hD => ?_⟩
      refine lc_it walk_range (fun i B => Same A B ∧ B D = some (.lst ((((List.range i).map fun (i : Nat) => (i : Int)).filter (keyB ds n os)).map V.int))) ⟨same_new hD, upd_same⟩ (fun _ _ _ _ => trivial) (fun i y B B' hi hP hY => ?_) (fun B hP => ?_)
      · obtain ⟨sB, hL⟩ := hP
        obtain ⟨rfl, ey⟩ := hY
        have ey : y = .int (i : Nat) := by rw [ey]; exact congrArg V.int (Int.zero_add _)
        subst ey
        have gl := keyR_len (keyB ds n os) i
        refine ⟨rfl, ?_⟩
        refine ⟨_, rfl, _, rfl, d, _, rfl, DGet.k (k := .inl (i : Int)) (sB _ _ hk), _, rfl, ?_⟩
        rw [kk]
        rw [keyR_succ]
        refine ite2 (fun c => ?_) (fun c => ?_)
        · rw [if_pos c]
          refine ⟨_, rfl, _, hL, by rw [List.length_map]; exact small1000 (by omega), same_mut sB hD, ?_⟩
          rw [upd_same, List.map_append]
          rfl
        · rw [if_neg c, List.append_nil]
          exact ⟨sB, hL⟩
      · obtain ⟨sB, hL⟩ := hP
        rw [show ((n : Nat) : Int).toNat = n from Int.toNat_natCast n] at hL
        refine ⟨D, _, rfl, .inl ⟨SqL.of hL, fun q hq => ?_⟩⟩
        have sz := (s1.trans sm).trans sB
        exact k _ q (sz.trans (same_new hq)) (sz.free hq) upd_same
end
end K47

namespace K47
open PySem L2 Wm TL Dv
section
variable {P : Program} {w : World} {K : PySem.W.Frag} {mg : Str → Option Value} {base : Heap}
theorem all_true {H : Hp} {D : Addr} {ys : List V} (hy : H D = some (.lst ys)) (hR : ∀ (i : Nat) y, ys[i]? = some y → y = V.bl true) : SqL K H D ((ys.map fun _ => true).map V.bl) := by
  refine SqL.of ?_
  rw [hy, List.map_map, show ys = ys.map (V.bl ∘ fun _ => true) from Lm.list_is (by rw [List.length_map]) fun i y e => by rw [List.getElem?_map, e, hR i y e]; rfl]
  simp
theorem all_id (ys : List V) : (ys.map fun _ => true).all id = true := by simp
theorem cnt_nodup {xs : List Str} {c : Nat} (h : Sl.Cnt xs xs.length c) (nd : xs.Nodup) : c = xs.length := h.2.mpr (by rw [List.take_length]; exact nd)
theorem BxsAt.k {H H' : Hp} {xs : List V} {bs : List Bx} (h : BxsAt K H xs bs) (s : Same H H') : BxsAt K H' xs bs := ⟨h.1, fun i v e => by
  obtain ⟨x, hx, q, rfl, hq⟩ := h.2 i v e
  exact ⟨x, hx, q, rfl, sameT s hq⟩⟩
theorem flat_strs (ts : List Str) : (ts.map V.str).all flatV = true := by
  rw [List.all_map]
  exact List.all_eq_true.mpr fun _ _ => rfl
theorem in_strs (x : Str) : ∀ ts : List Str, inV (.str x) (ts.map V.str) = decide (x ∈ ts)
  | [] => rfl
  | n :: ns => by
    have ih := in_strs x ns
    unfold inV at ih ⊢
    rw [List.map_cons, List.any_cons, ih]
    show ((n == x) || decide (x ∈ ns)) = _
    by_cases e : n = x
    · subst e; simp
    · simp [e, Ne.symm e]
theorem ok_is_box (T : Txt K mg) : FnOk P w K mg base CX0 2 T.a_is_box T.d_is_box ["thing"] (sp_is_box K) := by
  refine T.F_is_box.ok sc_is_box (fun vs H Q E h => ?_) (fun cdv A outer s H vs Q E hr h => ?_)
  · obtain ⟨v, x, rfl, _⟩ := h
    rfl
  · obtain ⟨v, x, rfl, hv, N, k⟩ := h
    obtain ⟨q, rfl, hq⟩ := hv
    refine ⟨_, (pss_one (ps_ret (pe_and (pe_call (ok_is_sequence T) (hr.mono (by decide)) (by rfl) T.g_is_sequence T.F_is_sequence.kp T.b_is_sequence .nil pass0 (pa_cons (pv 0) pa_nil)) (pe_and (pe_cmpR op_eq (pe_callB call_len_seq (by rfl) T.z_len PySem.boot_len (pa_cons (pv 0) pa_nil)) pe_int (nomark _)) (pe_and (pe_call (ok_is_number T) (hr.mono (by decide)) (by rfl) T.g_is_number T.F_is_number.kp T.b_is_number .nil pass0 (pa_cons (pe_ix ix_tup (pv 0) pe_int (fun _ _ => rfl)) pa_nil)) (pe_one (pe_call (ok_is_sort T) (hr.mono (by decide)) (by rfl) T.g_is_sort T.F_is_sort.kp T.b_is_sort .nil pass0 (pa_cons (pe_ix ix_tup (pv 0) pe_int (fun _ _ => rfl)) pa_nil)))))))), ?_⟩
    refine ⟨_, rfl, q, _, true, rfl, hq, fun H1 s1 => ⟨true, rfl, iteT ?_⟩⟩
    refine ⟨_, rfl, q, _, rfl, .inr (sameT s1 hq), rfl, _, rfl, iteT ?_⟩
    refine ⟨_, rfl, q, _, 0, _, rfl, rfl, sameT s1 hq, atI_nat (j := 0) rfl, _, _, rfl, ob_num N, fun H2 b s2 hb => ⟨b, rfl, ?_⟩⟩
    rw [hb.mpr ⟨x.1, N, rfl⟩]
    refine iteT ?_
    exact ⟨_, rfl, q, _, 1, _, rfl, rfl, sameT (s1.trans s2) hq, atI_nat (j := 1) rfl, x.2, rfl, fun H3 s3 => k _ ((s1.trans s2).trans s3)⟩
theorem ok_has_double (T : Txt K mg) : FnOk P w K mg base CX0 1 T.a_has_double T.d_has_double ["boxes"] (sp_has_double K) := by
  refine T.F_has_double.ok sc_has_double (fun vs H Q E h => ?_) (fun cdv A outer s H vs Q E hr h => ?_)
  · obtain ⟨p, t, xs, bs, rfl, _⟩ := h
    rfl
  · obtain ⟨p, t, xs, bs, rfl, hS, ⟨el, hb⟩, hl, nd, k⟩ := h
    refine ⟨_, (pss_one (ps_ret (pe_cmpR op_lt (Sl.pe_len rfl (by rfl) T.z_len (by rfl) T.z_set (pe_lc (own := [("number", 1), ("_", 2)]) (g := gTup K 2 (gCons (gName 1) (gCons (gName 2) (gNil)))) (tt := tYes) rfl sc_has_double.nd (Kd.pi_seq (pv 0)) (blkOk_by (own := [("number", 1), ("_", 2)]) (N := nm_has_double) (sc := (defScope s_has_double)) (by decide +kernel)) (fun _ _ _ _ _ => (pg_tup rfl (pgs_cons (pg_name (i := 1) sc_has_double.nd rfl (Or.inl rfl)) (pgs_cons (pg_name (i := 2) sc_has_double.nd rfl (Or.inl rfl)) pgs_nil)))) (fun _ _ _ _ _ => pts_nil) (fun _ _ _ _ _ => (pv 1)))) (pe_callB call_len_seq (by rfl) T.z_len PySem.boot_len (pa_cons (pv 0) pa_nil)) (nomark _)))), ?_⟩
    refine ⟨_, rfl, p, xs, t, rfl, hS, fun J G wk hG => fun D hD => ?_⟩
    refine Lm.lc_map (K := K) wk (fun i y _ => (bs.map fun b => V.str (numS b.1))[i]? = some y) (fun _ _ _ _ h _ => h) hD (by omega) (fun H' s => hG _ (hS.keep s)) (fun i x H' hi hx sm Q2 Z q => ?_) (fun H2 ys s2 hy ly hR => ?_)
    · obtain ⟨b, hb, q1, rfl, hq⟩ := hb i x hx
      have hq := sameT sm hq
      refine ⟨q1, _, rfl, hq, rfl, _, _, rfl, _, _, rfl, rfl, rfl, yesT ?_⟩
      refine ⟨_, rfl, q _ _ (Same.refl _) ?_⟩
      rw [List.getElem?_map, hb]
      rfl
    · have ey : ys = (bs.map fun b => numS b.1).map V.str := by
        rw [List.map_map]
        exact Lm.list_is (by rw [ly, List.length_map, el]) hR
      rw [ey] at hy
      refine ⟨D, _, rfl, SqL.of hy, by rw [List.length_map]; omega, fun c hc => ?_⟩
      have ec := cnt_nodup hc nd
      rw [List.length_map] at ec
      refine ⟨_, rfl, p, _, rfl, (hS.keep s2).sq, _, _, rfl, rfl, ?_⟩
      have e : decide (((c : Nat) : Int) < ((xs.length : Nat) : Int)) = false := decide_eq_false (by omega)
      show Q (V.bl (decide (((c : Nat) : Int) < ((xs.length : Nat) : Int)))) _
      rw [e]
      exact k _ s2
theorem ok_are_boxes (T : Txt K mg) : FnOk P w K mg base CX0 3 T.a_are_boxes T.d_are_boxes ["thing", "least", "most"] (sp_are_boxes K) := by
  refine T.F_are_boxes.ok sc_are_boxes (fun vs H Q E h => ?_) (fun cdv A outer s H vs Q E hr h => ?_)
  · obtain ⟨p, t, xs, bs, lo, hi, rfl, _⟩ := h
    rfl
  · obtain ⟨p, t, xs, bs, lo, hi, rfl, hS, hb, hl, l1, l2, hN, nd, k⟩ := h
    have el := hb.1
    refine ⟨_, (pss_cons (ps_if (PW.pt (pw_or (pt_not (pt_val (pe_call (ok_is_sequence T) (hr.mono (by decide)) (by rfl) T.g_is_sequence T.F_is_sequence.kp T.b_is_sequence .nil pass0 (pa_cons (pv 0) pa_nil)))) (pw_or1 (pt_not (pt_chain op_le op_le (pv 1) (pe_callB call_len_seq (by rfl) T.z_len PySem.boot_len (pa_cons (pv 0) pa_nil)) (pv 2))))))
        (pss_one (ps_ret pe_bl))
        pss_nil)
      (pss_one (ps_ret (pe_and (pe_callB (cr_all rfl) (by rfl) T.z_all (by decide +kernel) (pa_cons (pe_lc (own := [("box", 3)]) (g := gName 3) (tt := tYes) rfl sc_are_boxes.nd (Kd.pi_seq (pv 0)) (blkOk_by (own := [("box", 3)]) (N := nm_are_boxes) (sc := (defScope s_are_boxes)) (by decide +kernel)) (fun _ _ _ _ _ => pg_name (i := 3) sc_are_boxes.nd rfl (Or.inl rfl)) (fun _ _ _ _ _ => pts_nil) (fun _ _ _ _ _ => (pe_call (ok_is_box T) (hr.mono (by decide)) (by rfl) T.g_is_box T.F_is_box.kp T.b_is_box .nil pass0 (pa_cons (pv 3) pa_nil)))) pa_nil)) (pe_one (pe_not (pe_call (ok_has_double T) (hr.mono (by decide)) (by rfl) T.g_has_double T.F_has_double.kp T.b_has_double .nil pass0 (pa_cons (pv 0) pa_nil)))))))), ?_⟩
    refine ⟨_, rfl, p, xs, t, rfl, hS, fun H1 s1 => ⟨true, rfl, iteF ?_⟩⟩
    have hS1 := hS.keep s1
    refine ⟨_, rfl, _, rfl, p, _, rfl, hS1.sq, _, _, rfl, rfl, _, rfl, ?_⟩
    rw [decide_eq_true (show lo ≤ ((xs.length : Nat) : Int) by omega)]
    refine iteT ⟨_, rfl, _, _, rfl, rfl, _, rfl, ?_⟩
    rw [decide_eq_true (show ((xs.length : Nat) : Int) ≤ hi by omega)]
    refine iteF ?_
    refine ⟨_, rfl, p, xs, t, rfl, hS1, fun J G wk hG => fun D hD => ?_⟩
    refine Lm.lc_map (K := K) wk (fun i y _ => y = .bl true) (fun _ _ _ _ h _ => h) hD (by omega) (fun H' s => hG _ (hS1.keep s)) (fun i x H' hi hx sm Q2 Z q => ?_) (fun H2 ys s2 hy ly hR => ?_)
    · obtain ⟨b, hb2, a⟩ := (hb.k (s1.trans sm)).2 i x hx
      refine ⟨rfl, yesT ?_⟩
      exact ⟨_, rfl, x, b, rfl, a, hN b (List.mem_of_getElem? hb2), fun H5 s5 => q _ _ s5 rfl⟩
    · refine ⟨D, ys.map fun _ => true, rfl, all_true hy hR, _, rfl, ?_⟩
      rw [all_id]
      refine iteT ?_
      exact ⟨_, rfl, p, t, xs, bs, rfl, hS1.keep s2, hb.k (s1.trans s2), hl, nd, fun H3 s3 => ⟨_, rfl, k _ ((s1.trans s2).trans s3)⟩⟩
theorem ok_check_others (T : Txt K mg) : FnOk P w K mg base CX0 4 T.a_check_others T.d_check_others ["boxes", "number"] (sp_check_others K) := by
  refine T.F_check_others.ok sc_check_others (fun vs H Q E h => ?_) (fun cdv A outer s H vs Q E hr h => ?_)
  · obtain ⟨p, xs, bs, ds, rfl, _⟩ := h
    rfl
  · obtain ⟨p, xs, bs, ds, rfl, hS, hb, hl, hN, nd, hd, k⟩ := h
    have el := hb.1
    refine ⟨_, (pss_one (ps_if (PW.pt (pw_or (pt_not (pt_val (pe_call (ok_are_boxes T) (hr.mono (by decide)) (by rfl) T.g_are_boxes T.F_are_boxes.kp T.b_are_boxes .nil pass0 (pa_cons (pv 0) (pa_cons pe_int (pa_cons (pe_op op_sub (pe_glob (v := V.int 30) rfl T.c_MOST_ON_WIRE ⟨_, rfl⟩) pe_int) pa_nil)))))) (pw_or1 (pt_cmpR op_in_seq (pv 1) (pe_lc (own := [("other", 2), ("_", 3)]) (g := gTup K 2 (gCons (gName 2) (gCons (gName 3) (gNil)))) (tt := tYes) rfl sc_check_others.nd (pi_list (pv 0)) (blkOk_by (own := [("other", 2), ("_", 3)]) (N := nm_check_others) (sc := (defScope s_check_others)) (by decide +kernel)) (fun _ _ _ _ _ => (pg_tup rfl (pgs_cons (pg_name (i := 2) sc_check_others.nd rfl (Or.inl rfl)) (pgs_cons (pg_name (i := 3) sc_check_others.nd rfl (Or.inl rfl)) pgs_nil)))) (fun _ _ _ _ _ => pts_nil) (fun _ _ _ _ _ => (pv 2))) rfl))))
        (pss_one ps_never)
        pss_nil)), ?_⟩
    refine ⟨_, rfl, _, _, rfl, rfl, p, false, xs, bs, _, _, rfl, Kd.Is.lst hS, hb, by omega, by omega, by omega, hN, nd, fun H1 s1 => ⟨true, rfl, iteF ?_⟩⟩
    have hS1 := Hf.keepL s1 hS
    refine ⟨_, rfl, _, rfl, p, rfl, ⟨_, hS1⟩, fun D hD => ?_⟩
    refine Lm.lc_map (K := K) walk_list (fun i y _ => (bs.map fun b => V.str (numS b.1))[i]? = some y) (fun _ _ _ _ h _ => h) hD (by omega) (fun H' s => Hf.keepL s hS1) (fun i x H' hi hx sm Q2 Z q => ?_) (fun H2 ys s2 hy ly hR => ?_)
    · obtain ⟨b, hb, q1, rfl, hq⟩ := (hb.k (s1.trans sm)).2 i x hx
      refine ⟨q1, _, rfl, hq, rfl, _, _, rfl, _, _, rfl, rfl, rfl, yesT ?_⟩
      refine ⟨_, rfl, q _ _ (Same.refl _) ?_⟩
      rw [List.getElem?_map, hb]
      rfl
    · have ey : ys = (bs.map fun b => numS b.1).map V.str := by
        rw [List.map_map]
        exact Lm.list_is (by rw [ly, List.length_map, el]) hR
      rw [ey] at hy
      have nin : inV (.str (numS ds)) ((bs.map fun b => numS b.1).map V.str) = false := by
        rw [in_strs]
        exact decide_eq_false fun m => by
          obtain ⟨b, mb, e⟩ := List.mem_map.mp m
          exact hd b mb (numS_inj e)
      exact ⟨D, _, rfl, .inl (SqL.of hy), rfl, flat_strs _, _, rfl, iteN nin (k _ (s1.trans s2))⟩
theorem ok_check_hear (T : Txt K mg) : FnOk P w K mg base CX0 3 T.a_check_hear T.d_check_hear ["hear", "rounds"] (sp_check_hear K) := by
  refine T.F_check_hear.ok sc_check_hear (fun vs H Q E h => ?_) (fun cdv A outer s H vs Q E hr h => ?_)
  · obtain ⟨i, n, rfl, _⟩ := h
    rfl
  · obtain ⟨i, n, rfl, h1, h2, h3, k⟩ := h
    refine ⟨_, (pss_one (ps_if (PW.pt (pw_or (pt_not (pt_val (pe_call (ok_is_whole_within T) (hr.mono (by decide)) (by rfl) T.g_is_whole_within T.F_is_whole_within.kp T.b_is_whole_within .nil pass0 (pa_cons (pv 0) (pa_cons pe_int (pa_cons pe_int pa_nil)))))) (pw_or1 (pt_cmpR op_gt (pv 0) (pv 1) (nomark _)))))
        (pss_one ps_never)
        pss_nil)), ?_⟩
    refine ⟨_, rfl, _, _, _, rfl, _, rfl, ?_⟩
    rw [show (decide ((1 : Int) ≤ i) && decide (i ≤ 2)) = true by rw [decide_eq_true h1, decide_eq_true h2]; rfl]
    refine iteF ?_
    exact ⟨_, rfl, _, rfl, _, _, rfl, rfl, _, rfl, iteN (decide_eq_false (by omega)) k⟩
theorem ok_check_wire (T : Txt K mg) : FnOk P w K mg base CX0 4 T.a_check_wire T.d_check_wire ["boxes"] (sp_check_wire K) := by
  refine T.F_check_wire.ok sc_check_wire (fun vs H Q E h => ?_) (fun cdv A outer s H vs Q E hr h => ?_)
  · obtain ⟨p, t, xs, bs, rfl, _⟩ := h
    rfl
  · obtain ⟨p, t, xs, bs, rfl, hS, hb, G, k⟩ := h
    refine ⟨_, (pss_one (ps_if (pt_not (pt_val (pe_call (ok_are_boxes T) (hr.mono (by decide)) (by rfl) T.g_are_boxes T.F_are_boxes.kp T.b_are_boxes .nil pass0 (pa_cons (pv 0) (pa_cons pe_int (pa_cons (pe_glob (v := V.int 30) rfl T.c_MOST_ON_WIRE ⟨_, rfl⟩) pa_nil))))))
        (pss_one ps_never)
        pss_nil)), ?_⟩
    have g1 := G.l1
    have g2 := G.l2
    exact ⟨_, rfl, p, t, xs, bs, _, _, rfl, hS, hb, by omega, by omega, by omega, G.num, G.nd, fun H1 s1 => ⟨true, rfl, iteF (k _ s1)⟩⟩
theorem ok_check_page (T : Txt K mg) : FnOk P w K mg base CX0 5 T.a_check_page T.d_check_page ["boxes", "rounds", "hear"] (sp_check_page K) := by
  refine T.F_check_page.ok sc_check_page (fun vs H Q E h => ?_) (fun cdv A outer s H vs Q E hr h => ?_)
  · obtain ⟨p, t, xs, bs, n, hh, rfl, _⟩ := h
    rfl
  · obtain ⟨p, t, xs, bs, n, hh, rfl, hS, hb, G, R, k⟩ := h
    refine ⟨_, (pss_cons (ps_expr (pe_call (ok_check_wire T) (hr.mono (by decide)) (by rfl) T.g_check_wire T.F_check_wire.kp T.b_check_wire .nil pass0 (pa_cons (pv 0) pa_nil)))
      (pss_cons (ps_expr (pe_call (ok_check_rounds T) (hr.mono (by decide)) (by rfl) T.g_check_rounds T.F_check_rounds.kp T.b_check_rounds .nil pass0 (pa_cons (pv 1) pa_nil)))
      (pss_one (ps_expr (pe_call (ok_check_hear T) (hr.mono (by decide)) (by rfl) T.g_check_hear T.F_check_hear.kp T.b_check_hear .nil pass0 (pa_cons (pv 2) (pa_cons (pv 1) pa_nil))))))), ?_⟩
    refine ⟨_, rfl, p, t, xs, bs, rfl, hS, hb, G, fun H1 s1 => ?_⟩
    refine ⟨_, rfl, n, rfl, R.n1, R.n8, ?_⟩
    exact ⟨_, rfl, _, rfl, hh, n, rfl, R.h1, R.h2, R.hn, k _ s1⟩
end
end K47

namespace K47
open PySem L2 Wm TL Dv
section
variable {P : Program} {w : World} {K : PySem.W.Frag} {mg : Str → Option Value} {base : Heap}
/-- what the shy pulls spoil, from offset 0 down -/
def cntA (ds es : List Nat) (n j : Nat) : Int × Int := (((spB ds es n true (-(j : Int))).length : Nat), -(j : Int))
/-- the pairs as they stand in the heap, all of them new since H0 -/
def Cnts (H0 : Hp) (ds es : List Nat) (n : Nat) (A : Hp) (rs : List V) (i : Nat) : Prop := rs.length = i ∧ ∀ (j : Nat) r, rs[j]? = some r → ∃ t : Addr, r = .ref t ∧ H0 t = none ∧ A t = some (.tup [.int (cntA ds es n j).1, .int (cntA ds es n j).2])
theorem Cnts.keep {H0 A B : Hp} {ds es : List Nat} {n i : Nat} {rs : List V} (h : Cnts H0 ds es n A rs i) (s : Same A B) : Cnts H0 ds es n B rs i := ⟨h.1, fun j r e => by
  obtain ⟨t, a, b, c⟩ := h.2 j r e
  exact ⟨t, a, b, s _ _ c⟩⟩
theorem Cnts.put {H0 A : Hp} {ds es : List Nat} {n i : Nat} {rs xs ys : List V} {f : Addr} (h : Cnts H0 ds es n A rs i) (hf : A f = some (.lst xs)) : Cnts H0 ds es n (upd A f (.lst ys)) rs i := ⟨h.1, fun j r e => by
  obtain ⟨t, a, b, c⟩ := h.2 j r e
  have n1 : t ≠ f := fun z => by subst z; rw [c] at hf; cases hf
  exact ⟨t, a, b, by rw [upd_ne n1]; exact c⟩⟩
theorem dp_from {A : Hp} (g : Nat → Int × Int) : ∀ (m o : Nat) (rs : List V), rs.length = m → (∀ (j : Nat) r, rs[j]? = some r → ∃ t : Addr, r = .ref t ∧ A t = some (.tup [.int (g (o + j)).1, .int (g (o + j)).2])) → DpAll K A rs (((List.range m).map fun j => g (o + j)).map Mx.pD)
  | 0, o, [], _, _ => .nil
  | m + 1, o, r :: rs, hl, h => by
    obtain ⟨t, rfl, ht⟩ := h 0 r rfl
    have ih := dp_from g m (o + 1) rs (by simpa using hl) (fun j r e => by
      obtain ⟨t, a, b⟩ := h (j + 1) r (by simpa using e)
      exact ⟨t, a, by rw [show o + 1 + j = o + (j + 1) by omega]; exact b⟩)
    have e : ((fun j => g (o + j)) ∘ Nat.succ) = fun j => g (o + 1 + j) := by
      funext j
      show g (o + (j + 1)) = g (o + 1 + j)
      congr 1
      omega
    rw [List.range_succ_eq_map, List.map_cons, List.map_map, e, List.map_cons]
    exact .cons (.tup (SqT.of ht) (.cons (.int _) (.cons (.int _) .nil))) ih
theorem down_at (i : Nat) : (0 : Int) + (i : Nat) * (-1) = -(i : Int) := by omega
theorem ok_greatest_spoil (T : Txt K mg) : FnOk P w K mg base CX0 8 T.a_greatest_spoil T.d_greatest_spoil ["number", "other", "sort", "rounds"] (sp_greatest_spoil K) := by
  refine T.F_greatest_spoil.ok sc_greatest_spoil (fun vs H Q E h => ?_) (fun cdv A outer s H vs Q E hr h => ?_)
  · obtain ⟨ds, es, b, n, rfl, _⟩ := h
    rfl
  · obtain ⟨ds, es, b, n, rfl, N, M, ne, h1, h8, k⟩ := h
    have lp := sLn_pos N
    have lq := sLn_pos M
    have rq := row_pos M
    have eLn : ∀ xs : List Nat, (((rowL xs).length : Nat) : Int) = sLn xs := fun _ => rfl
    refine ⟨_, (pss_cons (ps_if (pt_cmpR op_eq (pv 2) (ClX.pe_cval (pe_glob (v := V.ref T.W) rfl T.gW rfl)) (nomark _))
        (pss_cons (ps_set (i := 4) sc_greatest_spoil.nd rfl (Or.inl rfl) (pe_call (ok_length_of T) (hr.mono (by decide)) (by rfl) T.g_length_of T.F_length_of.kp T.b_length_of .nil Mk1.passF (pa_cons (pv 0) pa_nil)))
        (pss_one (ps_ret (pe_tup (pa_cons (pe_op op_add (pe_op op_fdivW (pe_op op_sub (pe_op op_mul (pv 3) (pe_call (ok_length_of T) (hr.mono (by decide)) (by rfl) T.g_length_of T.F_length_of.kp T.b_length_of .nil Mk1.passF (pa_cons (pv 1) pa_nil))) pe_int) (pv 4)) pe_int) (pa_cons (pe_op op_sub (pv 4) pe_int) pa_nil))))))
        pss_nil)
      (pss_cons (ps_set (i := 5) sc_greatest_spoil.nd rfl (Or.inl rfl) (pe_lst pa_nil))
      (pss_cons (ps_for PassesOwn.never rfl (pi_range3 (by rfl) T.z_range (pa_cons pe_int (pa_cons (pe_un un_neg (pe_call (ok_length_of T) (hr.mono (by decide)) (by rfl) T.g_length_of T.F_length_of.kp T.b_length_of .nil Mk1.passF (pa_cons (pv 1) pa_nil))) (pa_cons (pe_un un_neg pe_int) pa_nil)))) (pg_name (i := 6) sc_greatest_spoil.nd rfl (Or.inl rfl))
        (pss_cons (ps_set (i := 7) sc_greatest_spoil.nd rfl (Or.inl rfl) (pe_call (ok_given_offsets T) (hr.mono (by decide)) (by rfl) T.g_given_offsets T.F_given_offsets.kp T.b_given_offsets .nil pass0 (pa_cons (pv 0) (pa_cons (pv 1) (pa_cons (pv 2) (pa_cons (pv 6) (pa_cons (pv 3) pa_nil)))))))
        (pss_one (ps_expr (pe_bm PySem.F.plainAttrs_list PySem.F.slot_list_append PySem.F.type_list_append mt_append (pv 5) (pa_cons (pe_tup (pa_cons (pe_callB call_len_seq (by rfl) T.z_len PySem.boot_len (pa_cons (pe_call (ok_spoilt_rounds T) (hr.mono (by decide)) (by rfl) T.g_spoilt_rounds T.F_spoilt_rounds.kp T.b_spoilt_rounds .nil pass0 (pa_cons (pv 0) (pa_cons (pv 7) (pa_cons (pv 3) pa_nil)))) pa_nil)) (pa_cons (pv 6) pa_nil))) pa_nil))))))
      (pss_one (ps_ret (pe_callB (Mx.cr_maxP rfl hr.units) (by rfl) T.z_max (by decide +kernel) (pa_cons (pv 5) pa_nil))))))), ?_⟩
    cases b with
    | false =>
      refine ⟨_, rfl, T.W, T.mc, _, _, rfl, T.rd, T.vP, rfl, _, rfl, ?_⟩
      rw [show decide (V.str (srt false) = V.str "plain") = true from decide_eq_true rfl]
      refine iteT ?_
      refine ⟨_, rfl, _, _, rfl, ob_num N, fun ds' N' e' H1 s1 => ?_, fun m => absurd ⟨ds, N, rfl⟩ m⟩
      have e0 : ds = ds' := numS_inj (V.str.inj e')
      subst e0
      refine ⟨_, rfl, _, rfl, _, _, rfl, ob_num M, fun es' M' e' H2 s2 => ?_, fun m => absurd ⟨es, M, rfl⟩ m⟩
      have e0 : es = es' := numS_inj (V.str.inj e')
      subst e0
      refine ⟨_, _, rfl, rfl, .inl ⟨by omega, by omega⟩, _, _, rfl, rfl, _, rfl, _, _, rfl, rfl, wide_div (by rw [eLn]; omega) (b := 100) (by rw [eLn]; omega) (by decide) (by decide), _, _, rfl, rfl, ?_⟩
      refine ⟨_, rfl, _, _, rfl, rfl, by show 2 ≤ sizeLine; decide, fun t ht => ?_⟩
      exact k _ t (((n : Int) * sLn es - 2) / sLn ds + 2, sLn ds - 1) rfl ((s1.trans s2).trans (same_new ht)) ((s1.trans s2).free ht) upd_same
    | true =>
      refine ⟨_, rfl, T.W, T.mc, _, _, rfl, T.rd, T.vP, rfl, _, rfl, iteN (decide_eq_false fun e => absurd (V.str.inj e) (by decide)) ?_⟩
      refine ⟨Nat.zero_le _, fun f hf => ?_⟩
      have sf := same_new (o := .lst []) hf
      refine ⟨_, rfl, _, _, rfl, ob_num M, fun es' M' e' H1 s1 => ?_, fun m => absurd ⟨es, M, rfl⟩ m⟩
      have e0 : es = es' := numS_inj (V.str.inj e')
      subst e0
      have hf1 := s1 _ _ (show upd H f (.lst []) f = some (.lst []) from upd_same)
      have sm0 := sf.trans s1
      refine ⟨_, rfl, _, rfl, _, _, _, _, rfl, RgC.neg (by decide) (by decide) (by rw [eLn]; omega) (by rw [eLn]; omega), ?_⟩
      have en : ((0 : Int) - -(((rowL es).length : Nat) : Int)).toNat = (rowL es).length := by omega
      refine for_rangeC (fun i σ A => ∃ (v6 v7 : Option V) (rs : List V), σ = [some (.str (numS ds)), some (.str (numS es)), some (.str (srt true)), some (.int (n : Nat)), none, some (.ref f), v6, v7] ∧ Same H A ∧ A f = some (.lst rs) ∧ Cnts H ds es n A rs i)
        ⟨none, none, [], rfl, sm0, hf1, rfl, fun j r e => by cases e⟩ (fun i σ A hi hP => ?_) (fun σ A hP => ?_)
      · obtain ⟨v6, v7, rs, rfl, sm, hfA, cn⟩ := hP
        rw [en] at hi
        have ei : (0 : Int) + (i : Nat) * (-1) = -(i : Int) := down_at i
        refine ⟨_, rfl, _, rfl, _, rfl, _, rfl, _, rfl, ds, es, true, (0 : Int) + (i : Nat) * (-1), n, rfl, N, M, h8, fun A1 q s2 f2 hq => ?_⟩
        rw [ei] at hq
        have len : (offs ds es n true (-(i : Int))).length ≤ 200 := Nat.le_trans (shyL_len M) (by decide)
        refine ⟨_, rfl, .inl ⟨rfl, _, SqL.of (s2 _ _ hfA)⟩, ?_⟩
        refine ⟨_, rfl, _, rfl, _, rfl, ds, q, n, _, rfl, N, h8, SqL.of hq, len, fun A2 r s3 f3 hr => ⟨r, _, rfl, .inr (SqT.of hr), ?_⟩⟩
        rw [List.length_map]
        refine ⟨_, rfl, by show 2 ≤ sizeLine; decide, fun t ht => ?_⟩
        have st := same_new (o := .tup [.int ((keyL ds n (offs ds es n true (-(i : Int)))).length : Nat), .int ((0 : Int) + (i : Nat) * (-1))]) ht
        have s23 := (s2.trans s3).trans st
        have hfB := s23 _ _ hfA
        refine ⟨f, _, _, rfl, rfl, hfB, by rw [cn.1]; exact small1000 (by omega), ?_⟩
        have cB := cn.keep s23
        have tn : H t = none := (sm.trans (s2.trans s3)).free ht
        refine ⟨_, _, _, rfl, same_mut (sm.trans s23) hf, upd_same, ?_⟩
        have tf : t ≠ f := fun z => by
          subst z
          rw [(s2.trans s3) _ _ hfA] at ht
          cases ht
        have cC := cB.put (ys := rs ++ [.ref t]) hfB
        refine ⟨by rw [List.length_append, cn.1]; rfl, fun j r2 e => ?_⟩
        by_cases c : j < rs.length
        · rw [List.getElem?_append_left c] at e
          exact cC.2 j r2 e
        · have ej : j = rs.length := by
            have := (List.getElem?_eq_some_iff.mp e).1
            rw [List.length_append] at this
            simp at this
            omega
          subst ej
          rw [List.getElem?_append_right (Nat.le_refl _), Nat.sub_self] at e
          have e := (Option.some.inj e).symm
          subst e
          refine ⟨t, rfl, tn, ?_⟩
          rw [upd_ne tf, upd_same, ei, cn.1]
          rfl
      · obtain ⟨v6, v7, rs, rfl, sm, hfA, cn⟩ := hP
        rw [en] at cn
        have dp := dp_from (K := K) (A := A) (cntA ds es n) (rowL es).length 0 rs cn.1 fun j r e => by
          obtain ⟨t, a, _, b⟩ := cn.2 j r e
          exact ⟨t, a, by rw [Nat.zero_add]; exact b⟩
        refine ⟨_, rfl, f, rs, _, rfl, SqL.of hfA, dp, ?_, fun j r p hr hp best => ?_⟩
        · intro z
          have := congrArg List.length z
          rw [List.length_map, List.length_range] at this
          rw [List.length_nil] at this
          omega
        · obtain ⟨t, rfl, tn, ht⟩ := cn.2 j r hr
          rw [List.getElem?_map] at hp
          obtain ⟨j2, hj2, rfl⟩ := Option.map_eq_some_iff.mp hp
          have jl := (List.getElem?_eq_some_iff.mp hj2).1
          rw [List.length_range] at jl
          rw [List.getElem?_range jl] at hj2
          have ej : j = j2 := Option.some.inj hj2
          subst ej
          have e0 : cntA ds es n (0 + j) = cntA ds es n j := by rw [Nat.zero_add]
          rw [e0] at best
          refine k _ t (cntA ds es n j) ⟨⟨⟨?_, ?_⟩, rfl⟩, fun a ha => ?_⟩ sm tn ht
          · show 1 - sLn es ≤ -(j : Int)
            unfold sLn
            omega
          · show -(j : Int) ≤ 0
            omega
          · obtain ⟨a1, a2⟩ := ha
            unfold sLn at a1
            have ea : -(((-a).toNat : Nat) : Int) = a := by omega
            have b := best (cntA ds es n (0 + (-a).toNat)) (List.mem_map.mpr ⟨(-a).toNat, List.mem_range.mpr (by omega), rfl⟩)
            rw [Nat.zero_add] at b
            unfold cntA at b
            rw [ea] at b
            exact b
end
end K47

namespace K47
open PySem L2 Wm TL Dv
section
variable {P : Program} {w : World} {K : PySem.W.Frag} {mg : Str → Option Value} {base : Heap}
theorem RowAt.k {H H' : Hp} {v : V} {r : Rw} (h : RowAt K H v r) (s : Same H H') : RowAt K H' v r := by
  obtain ⟨q, e, hq⟩ := h
  exact ⟨q, e, sameT s hq⟩
theorem RowsAt.k {H H' : Hp} {xs : List V} {rs : List Rw} (h : RowsAt K H xs rs) (s : Same H H') : RowsAt K H' xs rs := ⟨h.1, fun i v e => by
  obtain ⟨r, a, b⟩ := h.2 i v e
  exact ⟨r, a, b.k s⟩⟩
theorem srt_eq {a b : Bool} : decide (V.str (srt a) = V.str (srt b)) = decide (a = b) := by
  cases a <;> cases b <;> decide +kernel
theorem ok_plain_pulls_needed (T : Txt K mg) : FnOk P w K mg base CX0 1 T.a_plain_pulls_needed T.d_plain_pulls_needed ["count", "spoilt", "rounds", "hear"] (sp_plain_pulls_needed K) := by
  refine T.F_plain_pulls_needed.ok sc_plain_pulls_needed (fun vs H Q E h => ?_) (fun cdv A outer s H vs Q E hr h => ?_)
  · obtain ⟨c, s, n, h, rfl, _⟩ := h
    rfl
  · obtain ⟨c, s, n, hh, rfl, c1, c9, h1, h2, k⟩ := h
    refine ⟨_, (pss_cons (ps_set (i := 4) sc_plain_pulls_needed.nd rfl (Or.inl rfl) (pe_op op_sub (pe_op op_sub (pv 2) (pv 1)) (pe_op op_sub (pv 3) pe_int)))
      (pss_one (ps_ret (pe_un un_neg (pe_op op_fdivW (pe_un un_neg (pv 4)) (pe_op op_sub (pe_op op_add (pv 0) (pv 3)) pe_int)))))), ?_⟩
    refine ⟨_, rfl, _, rfl, _, _, rfl, rfl, _, rfl, _, _, rfl, rfl, _, _, rfl, rfl, ?_⟩
    refine ⟨_, rfl, _, rfl, _, rfl, _, rfl, _, _, rfl, rfl, _, _, rfl, rfl, _, _, rfl, rfl, wide_div (by omega) (b := 100) (by omega) (by decide) (by decide), _, rfl, k⟩
theorem step_or (b : Bool) (o : Option Rw) (r : Rw) : (stepR b o r = some r ∧ r.b = b) ∨ stepR b o r = o := by
  unfold stepR
  exact (Classical.em _).elim (fun c => .inl ⟨if_pos c, of_decide_eq_true (Bool.and_eq_true_iff.mp c).1⟩) (fun c => .inr (if_neg c))
theorem best_mem {b : Bool} {r : Rw} : ∀ {rs : List Rw} {o : Option Rw}, rs.foldl (stepR b) o = some r → o = some r ∨ (r ∈ rs ∧ r.b = b)
  | [], o, h => .inl h
  | z :: rs, o, h => by
    rcases best_mem (rs := rs) (o := stepR b o z) h with e | ⟨m, e⟩
    · rcases step_or b o z with ⟨c, d⟩ | c
      · rw [c] at e
        have e := Option.some.inj e
        subst e
        exact .inr ⟨List.mem_cons_self, d⟩
      · rw [c] at e
        exact .inl e
    · exact .inr ⟨List.mem_cons_of_mem _ m, e⟩
theorem best_in {rs : List Rw} {b : Bool} {r : Rw} (h : bestR rs b = some r) : r ∈ rs ∧ r.b = b := by
  rcases best_mem h with e | e
  · cases e
  · exact e
theorem best_take {rs : List Rw} {i : Nat} {r : Rw} {b : Bool} (h : rs[i]? = some r) : bestR (rs.take (i + 1)) b = stepR b (bestR (rs.take i) b) r := by
  unfold bestR
  rw [tk_succ h, List.foldl_append]
  rfl
theorem ok_best_row (T : Txt K mg) : FnOk P w K mg base CX0 1 T.a_best_row T.d_best_row ["table", "sort"] (sp_best_row K) := by
  refine T.F_best_row.ok sc_best_row (fun vs H Q E h => ?_) (fun cdv A outer s H vs Q E hr h => ?_)
  · obtain ⟨p, t, xs, rs, b, rfl, _⟩ := h
    rfl
  · obtain ⟨p, t, xs, rs, b, rfl, hS, ⟨el, hR⟩, k⟩ := h
    refine ⟨_, (pss_cons (ps_set (i := 2) sc_best_row.nd rfl (Or.inl rfl) pe_non)
      (pss_cons (ps_for PassesOwn.never rfl (Kd.pi_seq (pv 0)) (pg_name (i := 3) sc_best_row.nd rfl (Or.inl rfl))
        (pss_one (ps_if (PW.pt (pw_and (pt_cmpR op_eq (pe_ix ix_tup (pv 3) pe_int (fun _ _ => rfl)) (pv 1) (nomark _)) (pw_and1 (PW.pt (pw_or (pt_cmpR op_isN (pv 2) pe_non (nomark _)) (pw_or1 (pt_cmpR op_gt (pe_ix ix_tup (pv 3) pe_int (fun _ _ => rfl)) (pe_ix ix_tup (pv 2) pe_int (fun _ _ => rfl)) (nomark _))))))))
          (pss_one (ps_set (i := 2) sc_best_row.nd rfl (Or.inl rfl) (pv 3)))
          pss_nil)))
      (pss_one (ps_ret (pv 2))))), ?_⟩
    refine ⟨_, rfl, p, xs, t, rfl, hS, fun J G wk hG => ?_⟩
    refine for_it wk (fun i σ A => A = H ∧ ∃ bv v3, σ = [some (.ref p), some (.str (srt b)), some bv, v3] ∧
      ((bv = .non ∧ bestR (rs.take i) b = none ∧ ∀ j r, j < i → rs[j]? = some r → r.b ≠ b) ∨ ∃ m r, bestR (rs.take i) b = some r ∧ m < i ∧ rs[m]? = some r ∧ RowAt K H bv r ∧ r.b = b ∧ ∀ j z, j < i → rs[j]? = some z → z.b = b → z.c ≤ r.c))
      ⟨rfl, .non, none, rfl, .inl ⟨rfl, rfl, fun j r hj => absurd hj (Nat.not_lt_zero _)⟩⟩ (fun i σ A _ hP => ?_) (fun i y σ A A' hi hP hY => ?_) (fun σ A hP => ?_)
    · obtain ⟨rfl, _⟩ := hP
      exact hG _ hS
    · obtain ⟨rfl, bv, v3, rfl, hb⟩ := hP
      obtain ⟨rfl, hy⟩ := hY
      obtain ⟨r, hr, q, rfl, hq⟩ := hR i y hy
      refine ⟨_, rfl, q, _, 1, _, rfl, rfl, hq, atI_nat (j := 1) rfl, _, rfl, rfl, _, rfl, ?_⟩
      rw [srt_eq]
      refine ite2 (fun c => ?_) (fun c => ?_)
      · have cb : r.b = b := of_decide_eq_true c
        have rA : RowAt K _ (.ref q) r := ⟨q, rfl, hq⟩
        rcases hb with ⟨rfl, bn, h⟩ | ⟨m, z, bn, ml, hm, hz, zb, hc⟩
        · refine ⟨_, rfl, rfl, _, rfl, ite2 (fun _ => ?_) (fun z => absurd (decide_eq_true rfl) z)⟩
          refine ⟨_, rfl, rfl, _, _, rfl, .inr ⟨i, r, by rw [best_take hr, bn]; unfold stepR; rw [decide_eq_true cb]; rfl, by omega, hr, rA, cb, fun j r2 hj h2 e2 => ?_⟩⟩
          by_cases qq : j < i
          · exact absurd e2 (h j r2 qq h2)
          · have : j = i := by omega
            subst this
            rw [hr] at h2
            rw [← Option.some.inj h2]
            exact Int.le_refl _
        · obtain ⟨q2, rfl, hq2⟩ := id hz
          refine ⟨_, rfl, rfl, _, rfl, iteN (decide_eq_false fun e => by cases e) ?_⟩
          refine ⟨_, rfl, q, _, 2, _, rfl, rfl, hq, atI_nat (j := 2) rfl, _, rfl, q2, _, 2, _, rfl, rfl, hq2, atI_nat (j := 2) rfl, _, _, rfl, rfl, _, rfl, ite2 (fun c3 => ?_) (fun c3 => ?_)⟩
          · have c3 : r.c > z.c := of_decide_eq_true c3
            refine ⟨_, rfl, rfl, _, _, rfl, .inr ⟨i, r, by rw [best_take hr, bn]; unfold stepR; simp [cb, c3], by omega, hr, rA, cb, fun j r2 hj h2 e2 => ?_⟩⟩
            by_cases qq : j < i
            · have := hc j r2 qq h2 e2
              omega
            · have : j = i := by omega
              subst this
              rw [hr] at h2
              rw [← Option.some.inj h2]
              exact Int.le_refl _
          · have c3 : ¬ r.c > z.c := fun w => c3 (decide_eq_true w)
            refine ⟨rfl, _, _, rfl, .inr ⟨m, z, by rw [best_take hr, bn]; unfold stepR; simp [cb]; omega, by omega, hm, hz, zb, fun j r2 hj h2 e2 => ?_⟩⟩
            by_cases qq : j < i
            · exact hc j r2 qq h2 e2
            · have : j = i := by omega
              subst this
              rw [hr] at h2
              rw [← Option.some.inj h2]
              omega
      · have cb : r.b ≠ b := fun z => c (decide_eq_true z)
        refine ⟨rfl, bv, _, rfl, ?_⟩
        rcases hb with ⟨e, bn, h⟩ | ⟨m, z, bn, ml, hm, hz, zb, hc⟩
        · refine .inl ⟨e, by rw [best_take hr, bn]; unfold stepR; rw [decide_eq_false cb]; rfl, fun j r2 hj h2 => ?_⟩
          by_cases q : j < i
          · exact h j r2 q h2
          · have : j = i := by omega
            subst this
            rw [hr] at h2
            rw [← Option.some.inj h2]
            exact cb
        · refine .inr ⟨m, z, by rw [best_take hr, bn]; unfold stepR; rw [decide_eq_false cb]; rfl, by omega, hm, hz, zb, fun j r2 hj h2 e2 => ?_⟩
          by_cases q : j < i
          · exact hc j r2 q h2 e2
          · have : j = i := by omega
            subst this
            rw [hr] at h2
            rw [← Option.some.inj h2] at e2
            exact absurd e2 cb
    · obtain ⟨rfl, bv, v3, rfl, hb⟩ := hP
      refine ⟨_, rfl, ?_⟩
      rw [el, List.take_of_length_le (Nat.le_refl _)] at hb
      rcases hb with ⟨rfl, bn, h⟩ | ⟨m, z, bn, ml, hm, hz, zb, hc⟩
      · exact k _ (by rw [bn]; rfl)
      · exact k _ (by rw [bn]; exact hz)
end
end K47

namespace K47
open PySem L2 Wm TL Dv
section
variable {P : Program} {w : World} {K : PySem.W.Frag} {mg : Str → Option Value} {base : Heap}
theorem rows_of {bs : List Bx} {R : Bx → V → Rw → Prop} : ∀ ys : List V, (∀ (i : Nat) y, ys[i]? = some y → ∃ r x, bs[i]? = some x ∧ R x y r) → ∃ rs : List Rw, rs.length = ys.length ∧ ∀ (i : Nat) y, ys[i]? = some y → ∃ x r, bs[i]? = some x ∧ rs[i]? = some r ∧ R x y r := by
  intro ys
  induction ys generalizing bs with
  | nil => exact fun _ => ⟨[], rfl, fun i y e => by cases e⟩
  | cons y ys ih =>
    intro h
    obtain ⟨r0, x0, a0, b0⟩ := h 0 y rfl
    match bs, a0, h with
    | x :: bs, a0, h =>
      obtain ⟨rs, el, hr⟩ := ih (bs := bs) fun i z e => h (i + 1) z (by simpa using e)
      refine ⟨r0 :: rs, by rw [List.length_cons, el, List.length_cons], fun i z e => ?_⟩
      match i, e with
      | 0, e =>
        have e := Option.some.inj e
        subst e
        exact ⟨x0, r0, a0, rfl, b0⟩
      | i + 1, e => exact hr i z (by simpa using e)
theorem ok_spoil_table (T : Txt K mg) : FnOk P w K mg base CX0 9 T.a_spoil_table T.d_spoil_table ["number", "boxes", "rounds"] (sp_spoil_table K) := by
  refine T.F_spoil_table.ok sc_spoil_table (fun vs H Q E h => ?_) (fun cdv A outer s H vs Q E hr h => ?_)
  · obtain ⟨ds, p, xs, bs, n, rfl, _⟩ := h
    rfl
  · obtain ⟨ds, p, xs, bs, n, rfl, N, hS, hb, hl, hN, nd, hd, h1, h8, k⟩ := h
    have el := hb.1
    refine ⟨_, (pss_cons (ps_expr (pe_call (ok_check_called T) (hr.mono (by decide)) (by rfl) T.g_check_called T.F_check_called.kp T.b_check_called .nil pass0 (pa_cons (pv 0) pa_nil)))
      (pss_cons (ps_expr (pe_call (ok_check_others T) (hr.mono (by decide)) (by rfl) T.g_check_others T.F_check_others.kp T.b_check_others .nil pass0 (pa_cons (pv 1) (pa_cons (pv 0) pa_nil))))
      (pss_cons (ps_expr (pe_call (ok_check_rounds T) (hr.mono (by decide)) (by rfl) T.g_check_rounds T.F_check_rounds.kp T.b_check_rounds .nil pass0 (pa_cons (pv 2) pa_nil)))
      (pss_one (ps_ret (pe_callTy call_tuple_of (by rfl) T.z_tuple (by decide +kernel) (pa_cons (pe_lc (own := [("other", 3), ("sort", 4)]) (g := gTup K 2 (gCons (gName 3) (gCons (gName 4) (gNil)))) (tt := tYes) rfl sc_spoil_table.nd (pi_list (pv 1)) (blkOk_by (own := [("other", 3), ("sort", 4)]) (N := nm_spoil_table) (sc := (defScope s_spoil_table)) (by decide +kernel)) (fun _ _ _ _ _ => (pg_tup rfl (pgs_cons (pg_name (i := 3) sc_spoil_table.nd rfl (Or.inl rfl)) (pgs_cons (pg_name (i := 4) sc_spoil_table.nd rfl (Or.inl rfl)) pgs_nil)))) (fun _ _ _ _ _ => pts_nil) (fun _ _ _ _ _ => (pe_op (show OpR _ _ (rCatA K) from op_catA) (pe_tup (pa_cons (pv 3) (pa_cons (pv 4) pa_nil))) (pe_call (ok_greatest_spoil T) (hr.mono (by decide)) (by rfl) T.g_greatest_spoil T.F_greatest_spoil.kp T.b_greatest_spoil .nil pass0 (pa_cons (pv 0) (pa_cons (pv 3) (pa_cons (pv 4) (pa_cons (pv 2) pa_nil)))))))) pa_nil))))))), ?_⟩
    refine ⟨_, rfl, ds, rfl, N, fun H1 s1 => ?_⟩
    refine ⟨_, rfl, _, rfl, p, xs, bs, ds, rfl, Hf.keepL s1 hS, hb.k s1, hl, hN, nd, hd, fun H2 s2 => ?_⟩
    refine ⟨_, rfl, n, rfl, h1, h8, ?_⟩
    have s12 := s1.trans s2
    have hS2 := Hf.keepL s12 hS
    refine ⟨_, rfl, p, rfl, ⟨_, hS2⟩, fun D hD => ?_⟩
    refine Lm.lc_map (K := K) walk_list (fun i y A => ∃ x r, bs[i]? = some x ∧ RowAt K A y r ∧ (r.w = numS x.1 ∧ r.b = x.2 ∧ IsBest ds x.1 n x.2 (r.c, r.a)) ∧ ∃ q, y = .ref q ∧ H q = none) (fun i y A A' ⟨x, r, a, b, c⟩ kt => ⟨x, r, a, by
      obtain ⟨q, e, hq⟩ := b
      exact ⟨q, e, kt _ _ hq⟩, c⟩) hD (by omega) (fun H' s => Hf.keepL s hS2) (fun i x H' hi hx sm Q2 Z q => ?_) (fun H3 ys s3 hy ly hR => ?_)
    · obtain ⟨b, hbi, q1, rfl, hq⟩ := (hb.k (s12.trans sm)).2 i x hx
      have mb := List.mem_of_getElem? hbi
      refine ⟨q1, _, rfl, hq, rfl, _, _, rfl, _, _, rfl, rfl, rfl, yesT ?_⟩
      refine ⟨_, rfl, _, rfl, by show 2 ≤ sizeLine; decide, fun u hu => ?_⟩
      have su := same_new (o := .tup [.str (numS b.1), .str (srt b.2)]) hu
      refine ⟨_, rfl, _, rfl, _, rfl, _, rfl, ds, b.1, b.2, n, rfl, N, hN b mb, hd b mb, h1, h8, fun H5 t pr bp s5 f5 ht => ?_⟩
      have s25 := su.trans s5
      refine ⟨u, t, _, _, rfl, rfl, SqT.of (s5 _ _ upd_same), SqT.of ht, Nat.le_of_lt (small1000 (by show 4 ≤ 1000; decide)), fun z => (by cases z), fun _ z => (by cases z), fun _ _ w hw => ?_⟩
      refine q _ _ (s25.trans (same_new hw)) ⟨b, ⟨numS b.1, b.2, pr.1, pr.2⟩, hbi, ⟨w, rfl, SqT.of upd_same⟩, ⟨rfl, rfl, bp⟩, w, rfl, ((s12.trans sm).trans s25).free hw⟩
    · refine ⟨D, _, rfl, .inl ⟨SqL.of hy, fun t ht => ?_⟩⟩
      have sz := s12.trans s3
      have st := same_new (o := .tup ys) ht
      obtain ⟨rs, er, hr⟩ : ∃ rs : List Rw, rs.length = ys.length ∧ ∀ (i : Nat) y, ys[i]? = some y → ∃ x r, bs[i]? = some x ∧ rs[i]? = some r ∧ RowAt K H3 y r ∧ r.w = numS x.1 ∧ r.b = x.2 ∧ IsBest ds x.1 n x.2 (r.c, r.a) := rows_of ys fun i y e => by
        obtain ⟨x, r, a, b, c, _⟩ := hR i y e
        exact ⟨r, x, a, b, c⟩
      refine k _ t ys rs (sz.trans st) (sz.free ht) upd_same ⟨er.symm, fun i v e => ?_⟩ (fun v mv => ?_) ⟨by omega, fun i x r e1 e2 => ?_⟩
      · obtain ⟨x, r, _, b, c, _⟩ := hr i v e
        exact ⟨r, b, c.k st⟩
      · obtain ⟨i, hi, e⟩ := List.mem_iff_getElem.mp mv
        obtain ⟨_, _, _, _, _, z⟩ := hR i v (by rw [List.getElem?_eq_getElem hi, e])
        exact z
      · have il : i < ys.length := by
          rw [← er]
          exact (List.getElem?_eq_some_iff.mp e2).1
        obtain ⟨x2, r2, a, b, _, c⟩ := hr i _ (List.getElem?_eq_getElem il)
        rw [e1] at a
        rw [e2] at b
        have a := Option.some.inj a
        have b := Option.some.inj b
        subst a b
        exact c
end
end K47

namespace K47
open PySem L2 Wm TL Dv
section
variable {P : Program} {w : World} {K : PySem.W.Frag} {mg : Str → Option Value} {base : Heap}
theorem oV_non (o : Option Int) : decide (oV o = .non) = o.isNone := by
  cases o with
  | none => exact decide_eq_true rfl
  | some i => exact decide_eq_false fun e => by cases e
theorem less_spec (a b : Option Int) : ([a, b].filterMap id = [] → lesser a b = none) ∧ ∀ m ∈ [a, b].filterMap id, (∀ y ∈ [a, b].filterMap id, m ≤ y) → lesser a b = some m := by
  cases a with
  | none =>
    cases b with
    | none => exact ⟨fun _ => rfl, fun m h => by simp at h⟩
    | some b => exact ⟨fun h => by simp at h, fun m h _ => by simp at h; rw [h]; rfl⟩
  | some a =>
    cases b with
    | none => exact ⟨fun h => by simp at h, fun m h _ => by simp at h; rw [h]; rfl⟩
    | some b =>
      refine ⟨fun h => by simp at h, fun m h le => ?_⟩
      have l1 := le a (by simp)
      have l2 := le b (by simp)
      show some (min a b) = some m
      congr 1
      have h : m = a ∨ m = b := by simpa using h
      rcases h with h | h <;> subst h <;> omega
theorem fm_succ {os : List (Option Int)} {i : Nat} {o : Option Int} (h : os[i]? = some o) : (os.take (i + 1)).filterMap id = (os.take i).filterMap id ++ (match o with | none => [] | some z => [z]) := by
  rw [tk_succ h, List.filterMap_append]
  congr 1
  cases o <;> rfl
theorem ok_pulls_alone (T : Txt K mg) : FnOk P w K mg base CX0 3 T.a_pulls_alone T.d_pulls_alone ["table", "rounds", "hear"] (sp_pulls_alone K) := by
  refine T.F_pulls_alone.ok sc_pulls_alone (fun vs H Q E h => ?_) (fun cdv A outer s H vs Q E hr h => ?_)
  · obtain ⟨p, t, xs, rs, n, hh, rfl, _⟩ := h
    rfl
  · obtain ⟨p, t, xs, rs, n, hh, rfl, hS, hR, hC, h1, h2, k⟩ := h
    refine ⟨_, (pss_cons (ps_set (i := 3) sc_pulls_alone.nd rfl (Or.inl rfl) (pe_call (ok_best_row T) (hr.mono (by decide)) (by rfl) T.g_best_row T.F_best_row.kp T.b_best_row .nil pass0 (pa_cons (pv 0) (pa_cons (ClX.pe_cval (pe_glob (v := V.ref T.W) rfl T.gW rfl)) pa_nil))))
      (pss_one (ps_ret (pe_ifExp (pt_cmpR op_isN (pv 3) pe_non (nomark _)) pe_non (pe_call (ok_plain_pulls_needed T) (hr.mono (by decide)) (by rfl) T.g_plain_pulls_needed T.F_plain_pulls_needed.kp T.b_plain_pulls_needed .nil pass0 (pa_cons (pe_ix ix_tup (pv 3) pe_int (fun _ _ => rfl)) (pa_cons pe_int (pa_cons (pv 1) (pa_cons (pv 2) pa_nil))))))))), ?_⟩
    refine ⟨_, rfl, T.W, T.mc, _, _, rfl, T.rd, T.vP, p, t, xs, rs, false, rfl, hS, hR, fun v hv => ?_⟩
    unfold alone cO at k
    cases hb : bestR rs false with
    | none =>
      rw [hb] at hv k
      have hv : v = .non := hv
      subst hv
      exact ⟨_, rfl, rfl, _, rfl, ite2 (fun _ => k) (fun z => absurd (decide_eq_true rfl) z)⟩
    | some r =>
      rw [hb] at hv k
      obtain ⟨u, rfl, hu⟩ := hv
      obtain ⟨c1, c2⟩ := hC r (best_in hb).1
      refine ⟨_, rfl, rfl, _, rfl, iteN (decide_eq_false fun e => by cases e) ?_⟩
      exact ⟨_, rfl, u, _, 2, _, rfl, rfl, hu, atI_nat (j := 2) rfl, _, rfl, _, rfl, r.c, 0, n, hh, rfl, c1, c2, h1, h2, k⟩
theorem ok_pulls_behind_shy (T : Txt K mg) : FnOk P w K mg base CX0 3 T.a_pulls_behind_shy T.d_pulls_behind_shy ["table", "rounds", "hear"] (sp_pulls_behind_shy K) := by
  refine T.F_pulls_behind_shy.ok sc_pulls_behind_shy (fun vs H Q E h => ?_) (fun cdv A outer s H vs Q E hr h => ?_)
  · obtain ⟨p, t, xs, rs, n, hh, rfl, _⟩ := h
    rfl
  · obtain ⟨p, t, xs, rs, n, hh, rfl, hS, hR, hC, h1, h2, k⟩ := h
    refine ⟨_, (pss_cons (ps_set (i := 3) sc_pulls_behind_shy.nd rfl (Or.inl rfl) (pe_call (ok_best_row T) (hr.mono (by decide)) (by rfl) T.g_best_row T.F_best_row.kp T.b_best_row .nil pass0 (pa_cons (pv 0) (pa_cons (ClX.pe_cval (pe_glob (v := V.ref T.W) rfl T.gW rfl)) pa_nil))))
      (pss_cons (ps_if (pt_cmpR op_isN (pv 3) pe_non (nomark _))
        (pss_one (ps_ret pe_non))
        pss_nil)
      (pss_cons (ps_if (pt_cmpR op_ge (pe_ix ix_tup (pv 3) pe_int (fun _ _ => rfl)) (pe_op op_add (pe_op op_sub (pv 1) (pv 2)) pe_int) (nomark _))
        (pss_one (ps_ret pe_int))
        pss_nil)
      (pss_cons (ps_set (i := 4) sc_pulls_behind_shy.nd rfl (Or.inl rfl) (pe_call (ok_best_row T) (hr.mono (by decide)) (by rfl) T.g_best_row T.F_best_row.kp T.b_best_row .nil pass0 (pa_cons (pv 0) (pa_cons (ClX.pe_cval (pe_glob (v := V.ref T.W) rfl T.gW rfl)) pa_nil))))
      (pss_one (ps_ret (pe_ifExp (pt_cmpR op_isN (pv 4) pe_non (nomark _)) pe_non (pe_op op_add pe_int (pe_call (ok_plain_pulls_needed T) (hr.mono (by decide)) (by rfl) T.g_plain_pulls_needed T.F_plain_pulls_needed.kp T.b_plain_pulls_needed .nil pass0 (pa_cons (pe_ix ix_tup (pv 4) pe_int (fun _ _ => rfl)) (pa_cons (pe_ix ix_tup (pv 3) pe_int (fun _ _ => rfl)) (pa_cons (pv 1) (pa_cons (pv 2) pa_nil))))))))))))), ?_⟩
    refine ⟨_, rfl, T.W, T.mc, _, _, rfl, T.rd, T.vS, p, t, xs, rs, true, rfl, hS, hR, fun v hv => ?_⟩
    unfold behind cO at k
    cases hb : bestR rs true with
    | none =>
      rw [hb] at hv k
      have hv : v = .non := hv
      subst hv
      exact ⟨_, rfl, rfl, _, rfl, ite2 (fun _ => k) (fun z => absurd (decide_eq_true rfl) z)⟩
    | some r =>
      rw [hb] at hv k
      obtain ⟨u, rfl, hu⟩ := hv
      refine ⟨_, rfl, rfl, _, rfl, iteN (decide_eq_false fun e => by cases e) ?_⟩
      refine ⟨_, rfl, u, _, 2, _, rfl, rfl, hu, atI_nat (j := 2) rfl, _, rfl, _, rfl, _, _, rfl, rfl, _, _, rfl, rfl, _, _, rfl, rfl, _, rfl, ite2 (fun c => ?_) (fun c => ?_)⟩
      · have c : n - hh + 1 ≤ r.c := of_decide_eq_true c
        have k : Q (oV (if n - hh + 1 ≤ r.c then some 1 else ((bestR rs false).map (·.c)).map fun c => 1 + need c r.c n hh)) H := k
        rw [if_pos c] at k
        exact k
      · have c : ¬ n - hh + 1 ≤ r.c := fun z => c (decide_eq_true z)
        have k : Q (oV (if n - hh + 1 ≤ r.c then some 1 else ((bestR rs false).map (·.c)).map fun c => 1 + need c r.c n hh)) H := k
        rw [if_neg c] at k
        refine ⟨_, rfl, T.W, T.mc, _, _, rfl, T.rd, T.vP, p, t, xs, rs, false, rfl, hS, hR, fun v2 hv2 => ?_⟩
        cases hb2 : bestR rs false with
        | none =>
          rw [hb2] at hv2 k
          have hv2 : v2 = .non := hv2
          subst hv2
          exact ⟨_, rfl, rfl, _, rfl, ite2 (fun _ => k) (fun z => absurd (decide_eq_true rfl) z)⟩
        | some r2 =>
          rw [hb2] at hv2 k
          obtain ⟨u2, rfl, hu2⟩ := hv2
          obtain ⟨c1, c2⟩ := hC r2 (best_in hb2).1
          refine ⟨_, rfl, rfl, _, rfl, iteN (decide_eq_false fun e => by cases e) ?_⟩
          exact ⟨_, rfl, u2, _, 2, _, rfl, rfl, hu2, atI_nat (j := 2) rfl, _, rfl, u, _, 2, _, rfl, rfl, hu, atI_nat (j := 2) rfl, _, rfl, _, rfl, r2.c, r.c, n, hh, rfl, c1, c2, h1, h2, _, _, rfl, rfl, k⟩
end
end K47

namespace K47
open PySem L2 Wm TL Dv
section
variable {P : Program} {w : World} {K : PySem.W.Frag} {mg : Str → Option Value} {base : Heap}
theorem PulS.k {H H' : Hp} {xs : List V} {l : List Pul} (h : PulS K H xs l) (s : Same H H') : PulS K H' xs l := ⟨h.1, fun i v hv => by
  obtain ⟨p, q, a, b, c⟩ := h.2 i v hv
  exact ⟨p, q, a, b, sameT s c⟩⟩
theorem PulO.k {H H' : Hp} {v : V} {o : Option (List Pul)} (h : PulO K H v o) (s : Same H H') : PulO K H' v o := by
  cases o with
  | none => exact h
  | some l =>
    obtain ⟨t, ys, e, ht, hp⟩ := h
    exact ⟨t, ys, e, sameT s ht, hp.k s⟩
theorem HidI.k {C : Addr} {H H' : Hp} {p : Addr} {ds : List Nat} {b : Bool} {t : Addr} (h : HidI C H p ds b t) (s : Same H H') : HidI C H' p ds b t := ⟨let ⟨dx, fs, a, r⟩ := h.at'; ⟨dx, fs, s _ _ a, r⟩⟩
theorem HidAt.k {C : Addr} {H H' : Hp} {v : V} {ds : List Nat} {b : Bool} {o : Option (List Pul)} (h : HidAt K C H v ds b o) (s : Same H H') : HidAt K C H' v ds b o := by
  cases o with
  | none => exact h
  | some l =>
    obtain ⟨p, t, ys, e, hi, ht, hp⟩ := h
    exact ⟨p, t, ys, e, hi.k s, sameT s ht, hp.k s⟩
theorem WrAt.k {H H' : Hp} {v : V} {r : Wr} (h : WrAt K H v r) (s : Same H H') : WrAt K H' v r := by
  obtain ⟨q, u, e, a, b⟩ := h
  exact ⟨q, u, e, sameT s a, sameT s b⟩
theorem WrsAt.k {H H' : Hp} {xs : List V} {rs : List Wr} (h : WrsAt K H xs rs) (s : Same H H') : WrsAt K H' xs rs := ⟨h.1, fun i v hv => by
  obtain ⟨r, a, b⟩ := h.2 i v hv
  exact ⟨r, a, b.k s⟩⟩
theorem walk_rgAt {lo : Int} {n : Nat} : Walk (Itr lo n) n (fun _ => True) (YAt ((List.range n).map fun i => V.int (lo + (i : Nat)))) := by
  refine walk_range.mono (fun _ h => h) fun i H x H' hi _ hy => ⟨hy.1, ?_⟩
  rw [List.getElem?_map, List.getElem?_range hi, hy.2]
  rfl
theorem ok_hinit (T : Txt K mg) : FnOk P w K mg base CX0 1 T.a_hinit T.d_hinit ["self", "number", "box_sort", "pulls"] (sp_hinit K T.HC) := by
  refine T.F_hinit.ok sc_hinit (fun vs H Q E h => ?_) (fun cdv A outer s H vs Q E hr h => ?_)
  · obtain ⟨p, dx, a, b, c, rfl, _⟩ := h
    rfl
  · obtain ⟨p, dx, a, b, c, rfl, hp, k⟩ := h
    refine ⟨_, (pss_cons (ps_fld (pv 0) (pv 1) rfl)
      (pss_cons (ps_fld (pv 0) (pv 2) rfl)
      (pss_one (ps_fld (pv 0) (pv 3) rfl)))), ?_⟩
    refine ⟨_, rfl, _, rfl, p, T.HC, dx, [], rfl, hp, T.clHC, T.nN, by show 0 < 1000; decide, ?_⟩
    refine ⟨_, rfl, _, rfl, p, T.HC, dx, _, rfl, upd_same, T.clHC, T.nB, by show 1 < 1000; decide, ?_⟩
    refine ⟨_, rfl, _, rfl, p, T.HC, dx, _, rfl, upd_same, T.clHC, T.nP, by show 2 < 1000; decide, ?_⟩
    exact k _ _ (fun q o nq e => by rw [upd_ne nq, upd_ne nq, upd_ne nq]; exact e) upd_same rfl rfl rfl
theorem ok_hiter (T : Txt K mg) : FnOk P w K mg base CX0 1 T.a_hiter T.d_hiter ["self"] (sp_hiter K T.HC) := by
  refine T.F_hiter.ok sc_hiter (fun vs H Q E h => ?_) (fun cdv A outer s H vs Q E hr h => ?_)
  · obtain ⟨p, q, zs, rfl, _⟩ := h
    rfl
  · obtain ⟨p, q, zs, rfl, ⟨dx, fs, hp, l1, hq⟩, k⟩ := h
    refine ⟨_, (pss_one (ps_ret (pe_callB Li.call_iterT (by rfl) T.z_iter (by decide +kernel) (pa_cons (pe_fld (pv 0) rfl) pa_nil)))), ?_⟩
    exact ⟨_, rfl, p, T.HC, dx, fs, _, rfl, hp, T.clHC, T.nP, l1, q, _, rfl, hq, k⟩
theorem ok_hlen (T : Txt K mg) : FnOk P w K mg base CX0 1 T.a_hlen T.d_hlen ["self"] (sp_hlen K T.HC) := by
  refine T.F_hlen.ok sc_hlen (fun vs H Q E h => ?_) (fun cdv A outer s H vs Q E hr h => ?_)
  · obtain ⟨p, q, zs, rfl, _⟩ := h
    rfl
  · obtain ⟨p, q, zs, rfl, ⟨dx, fs, hp, l1, hq⟩, k⟩ := h
    refine ⟨_, (pss_one (ps_ret (pe_callB call_len_seq (by rfl) T.z_len PySem.boot_len (pa_cons (pe_fld (pv 0) rfl) pa_nil)))), ?_⟩
    exact ⟨_, rfl, p, T.HC, dx, fs, _, rfl, hp, T.clHC, T.nP, l1, q, _, rfl, .inr hq, k⟩
theorem ok_plain_pulls (T : Txt K mg) : FnOk P w K mg base CX0 6 T.a_plain_pulls T.d_plain_pulls ["row", "number", "spoilt", "many", "hear"] (sp_plain_pulls K) := by
  refine T.F_plain_pulls.ok sc_plain_pulls (fun vs H Q E h => ?_) (fun cdv A outer s H vs Q E hr h => ?_)
  · obtain ⟨v, o, ds, s, many, hh, rfl, _⟩ := h
    rfl
  · obtain ⟨v, o, ds, s, many, hh, rfl, N, ho, m0, hm, k⟩ := h
    have rp := row_pos N
    refine ⟨_, (pss_cons (ps_set (i := 5) sc_plain_pulls.nd rfl (Or.inr rfl) (pe_call (ok_length_of T) (hr.mono (by decide)) (by rfl) T.g_length_of T.F_length_of.kp T.b_length_of .nil Mk1.passF (pa_cons (pv 1) pa_nil)))
      (pss_one (ps_ret (pe_callTy call_tuple_of (by rfl) T.z_tuple (by decide +kernel) (pa_cons (pe_lc (own := [("j", 6)]) (g := gName 6) (tt := tYes) rfl sc_plain_pulls.nd (pi_range1 (by rfl) T.z_range (pa_cons (pv 3) pa_nil)) (blkOk_by (own := [("j", 6)]) (N := nm_plain_pulls) (sc := (defScope s_plain_pulls)) (by decide +kernel)) (fun _ _ _ _ _ => pg_name (i := 6) sc_plain_pulls.nd rfl (Or.inl rfl)) (fun _ _ _ _ _ => pts_nil) (fun _ _ _ _ _ => (pe_tup (pa_cons (pe_op op_sub (pe_op op_mul (pe_op op_add (pe_op op_add (pv 2) (pv 4)) (pe_op op_mul (pv 6) (pe_op op_sub (pe_op op_add (pe_ix (show IxR _ (rIxT K) from ix_tup) (pv 0) pe_int (fun _ _ => rfl)) (pv 4)) pe_int))) (pv 5)) pe_int) (pa_cons (pe_ix (show IxR _ (rIxT K) from ix_tup) (pv 0) pe_int (fun _ _ => rfl)) pa_nil))))) pa_nil))))), ?_⟩
    refine ⟨_, rfl, _, _, rfl, ob_num N, fun ds' N' e' H1 s1 => ?_, fun m => absurd ⟨ds, N, rfl⟩ m⟩
    have e0 : ds = ds' := numS_inj (V.str.inj e')
    subst e0
    refine ⟨_, rfl, _, rfl, by omega, by omega, fun D hD => ?_⟩
    refine Lm.lc_map (K := K) walk_rgAt (fun i y A => ∃ r q, o = some r ∧ y = .ref q ∧ SqT K A q [.int ((s + hh + (i : Int) * (r.c + hh - 1)) * sLn ds - 1), .str r.w]) (fun i y A A' ⟨r, q, a, b, c⟩ kt => ⟨r, q, a, b, kt _ _ c⟩) hD (by omega) (fun _ _ => trivial) (fun i x H' hi hx sm Q2 Z q => ?_) (fun H2 ys s2 hy ly hR => ?_)
    · rw [List.getElem?_map, List.getElem?_range hi] at hx
      have hx := (Option.some.inj hx).symm
      subst hx
      cases o with
      | none =>
        have ho : many ≤ 0 := ho
        omega
      | some r =>
        obtain ⟨u, rfl, hu⟩ := (show RowAt K H v r from ho)
        have hu := sameT (s1.trans sm) hu
        refine ⟨rfl, yesT ?_⟩
        refine ⟨_, rfl, _, rfl, _, _, rfl, rfl, _, rfl, _, rfl, u, _, 2, _, rfl, rfl, hu, atI_nat (j := 2) rfl, _, rfl, _, _, rfl, rfl, _, _, rfl, rfl, _, _, rfl, rfl, .inl ⟨by omega, by omega⟩, _, _, rfl, rfl, _, rfl, _, _, rfl, rfl, .inr ⟨by omega, by omega⟩, _, _, rfl, rfl, ?_⟩
        refine ⟨_, rfl, u, _, 0, _, rfl, rfl, hu, atI_nat (j := 0) rfl, by show 2 ≤ sizeLine; decide, fun t ht => ?_⟩
        refine q _ _ (same_new ht) ⟨r, t, rfl, rfl, ?_⟩
        refine SqT.of ?_
        show upd H' t (.tup [.int ((s + hh + (0 + (i : Int)) * (r.c + hh - 1)) * sLn ds - 1), .str r.w]) t = _
        rw [Int.zero_add]
        exact upd_same
    · refine ⟨D, _, rfl, .inl ⟨SqL.of hy, fun t ht => ?_⟩⟩
      have st := same_new (o := .tup ys) ht
      refine k _ t ys ((s1.trans s2).trans st) ((s1.trans s2).free ht) upd_same ⟨?_, fun i v hv => ?_⟩
      · rw [ly]
        cases o with
        | none =>
          have ho : many ≤ 0 := ho
          show many.toNat = 0
          omega
        | some r =>
          show _ = (ppL r.w r.c (sLn ds) s many.toNat hh).length
          unfold ppL
          rw [List.length_map, List.length_range]
      · obtain ⟨r, q, rfl, e, hq⟩ := hR i v hv
        have il := (List.getElem?_eq_some_iff.mp hv).1
        refine ⟨((s + hh + (i : Int) * (r.c + hh - 1)) * sLn ds - 1, r.w), q, ?_, e, sameT st hq⟩
        show (ppL r.w r.c (sLn ds) s many.toNat hh)[i]? = _
        unfold ppL
        rw [List.getElem?_map, List.getElem?_range (by omega)]
        rfl
end
end K47

namespace K47
open PySem L2 Wm TL Dv
section
variable {P : Program} {w : World} {K : PySem.W.Frag} {mg : Str → Option Value} {base : Heap}
theorem spB_shy {ds es : List Nat} {n : Nat} {a : Int} (N : Num ds) : spB ds es n true a = spS ds es n a := key_hit N
/-- at its best a shy pull spoils at least one round -/
theorem best_shy {ds es : List Nat} {n : Nat} {c a : Int} (N : Num ds) (M : Num es) (h1 : 1 ≤ n) (B : IsBest ds es n true (c, a)) : ShyAt es a ∧ ∃ k : Nat, c = (k : Nat) ∧ 1 ≤ k ∧ k ≤ 8 + n := by
  obtain ⟨⟨A, e⟩, best⟩ := B
  have A : ShyAt es a := A
  obtain ⟨k, k1, k2, _⟩ := sp_range (n := n) N M A h1
  refine ⟨A, k, ?_, ?_, by omega⟩
  · have e : c = ((spB ds es n true a).length : Nat) := e
    rw [e, spB_shy N, k2, List.length_map, List.length_range]
  · have A1 : ShyAt es (-1) := by
      have := sLn_pos M
      constructor <;> omega
    obtain ⟨j, _, j2, j3⟩ := sp_range (n := n) N M A1 h1
    have b := best (-1) A1
    have j0 := j3 (by decide)
    rw [spB_shy N, j2, List.length_map, List.length_range] at b
    have e : c = ((spB ds es n true a).length : Nat) := e
    rw [spB_shy N, k2, List.length_map, List.length_range] at e
    unfold Mx.Le2 at b
    have b : (j : Int) < c ∨ ((j : Int) = c ∧ (-1 : Int) ≤ a) := b
    omega
theorem two_best {ds es : List Nat} {n : Nat} {b : Bool} {p q : Int × Int} (h : IsBest ds es n b p) (g : IsBest ds es n b q) : p = q := by
  cases b with
  | false => exact (show p = _ from h).trans (show q = _ from g).symm
  | true =>
    obtain ⟨⟨a1, e1⟩, b1⟩ := h
    obtain ⟨⟨a2, e2⟩, b2⟩ := g
    have x := b1 _ a2
    have y := b2 _ a1
    obtain ⟨c1, o1⟩ := p
    obtain ⟨c2, o2⟩ := q
    have e1 : c1 = _ := e1
    have e2 : c2 = _ := e2
    rw [← e2] at x
    rw [← e1] at y
    unfold Mx.Le2 at x y
    have x : c2 < c1 ∨ (c2 = c1 ∧ o2 ≤ o1) := x
    have y : c1 < c2 ∨ (c1 = c2 ∧ o1 ≤ o2) := y
    have : c1 = c2 ∧ o1 = o2 := by omega
    rw [this.1, this.2]
theorem bst_eq {ds es : List Nat} {n : Nat} {b : Bool} {p : Int × Int} (h : IsBest ds es n b p) : bst ds es n b = p := by
  unfold bst
  rw [dif_pos ⟨p, h⟩]
  exact two_best (Classical.choose_spec (⟨p, h⟩ : ∃ p, IsBest ds es n b p)) h
theorem tab_eq {ds : List Nat} {n : Nat} {bs : List Bx} {rs : List Rw} (h : TabOf ds n bs rs) : rs = tabL ds n bs := by
  refine Lm.list_is (by unfold tabL; rw [List.length_map, h.1]) fun i r e => ?_
  have il : i < bs.length := by
    rw [← h.1]
    exact (List.getElem?_eq_some_iff.mp e).1
  obtain ⟨a, b, c⟩ := h.2 i _ r (List.getElem?_eq_getElem il) e
  unfold tabL
  rw [List.getElem?_map, List.getElem?_eq_getElem il]
  show some (rowD ds n bs[i]) = some r
  unfold rowD
  rw [bst_eq c, ← a, ← b]
theorem counts_tab {ds : List Nat} {n : Nat} {bs : List Bx} {rs : List Rw} (N : Num ds) (bN : ∀ x ∈ bs, Num x.1) (h1 : 1 ≤ n) (h8 : n ≤ 8) (hT : TabOf ds n bs rs) : Counts rs := by
  intro r mr
  obtain ⟨i, hi⟩ := List.mem_iff_getElem?.mp mr
  have il := (List.getElem?_eq_some_iff.mp hi).1
  rw [hT.1] at il
  have hb : bs[i]? = some bs[i] := List.getElem?_eq_getElem il
  have M : Num bs[i].1 := bN _ (List.getElem_mem il)
  obtain ⟨_, _, B⟩ := hT.2 i _ r hb hi
  have big : (1000 : Int) < 2 ^ 90 := by decide
  cases hs : bs[i].2 with
  | true =>
    rw [hs] at B
    obtain ⟨_, k, e, k1, k9⟩ := best_shy N M h1 B
    omega
  | false =>
    rw [hs] at B
    have e : r.c = cntP ds bs[i].1 n := congrArg Prod.fst B
    have c2 := cntP_pos (n := n) N M h1
    have lp := sLn_pos N
    have lq := sLn_pos M
    have nb : (n : Int) * sLn bs[i].1 ≤ 8 * 60 := Int.mul_le_mul (by omega) (by omega) (by omega) (by omega)
    have nb0 : 0 ≤ (n : Int) * sLn bs[i].1 := Int.mul_nonneg (by omega) (by omega)
    have dv : ((n : Int) * sLn bs[i].1 - 2) / sLn ds ≤ 500 := by
      refine Int.le_trans (Int.ediv_le_ediv (by omega) (show _ ≤ (500 : Int) by omega)) ?_
      refine Int.ediv_le_self _ (by decide)
    unfold cntP at e c2
    omega
theorem need_pos {c s n h : Int} (h1 : 1 ≤ c + h - 1) (l : 1 ≤ n - s - (h - 1)) : 1 ≤ need c s n h := by
  unfold need
  have := Int.ediv_neg_of_neg_of_pos (a := -(n - s - (h - 1))) (b := c + h - 1) (by omega) (by omega)
  omega
theorem need_nn {c s n h : Int} (h1 : 1 ≤ c + h - 1) (l : 0 ≤ n - s - (h - 1)) : 0 ≤ need c s n h := by
  unfold need
  have : (-(n - s - (h - 1))) / (c + h - 1) ≤ 0 := by
    by_cases z : n - s - (h - 1) = 0
    · rw [z]; simp
    · have := Int.ediv_neg_of_neg_of_pos (a := -(n - s - (h - 1))) (b := c + h - 1) (by omega) (by omega)
      omega
  omega
theorem need_le {c s n h : Int} (h1 : 1 ≤ c + h - 1) (l : n - s - (h - 1) ≤ 8) : need c s n h ≤ 8 := by
  unfold need
  have : -8 ≤ (-(n - s - (h - 1))) / (c + h - 1) := (Int.le_ediv_iff_mul_le (by omega)).mpr (by omega)
  omega
theorem pps_len {o : Option Rw} {L s h : Int} {k : Nat} : (ppO o L s k h).length ≤ k := by
  cases o with
  | none => exact Nat.zero_le _
  | some r =>
    show (ppL r.w r.c L s k h).length ≤ k
    unfold ppL
    rw [List.length_map, List.length_range]
    exact Nat.le_refl _
/-- how many plain pulls a lone plain box needs -/
theorem alone_in {rs : List Rw} {n h a : Int} (C : Counts rs) (h1 : 1 ≤ h) (hn : h ≤ n) (n8 : n ≤ 8) (e : alone (cO rs false) n h = some a) : ∃ r, bestR rs false = some r ∧ 1 ≤ a ∧ a ≤ 8 := by
  unfold alone cO at e
  cases hb : bestR rs false with
  | none => rw [hb] at e; cases e
  | some r =>
    rw [hb] at e
    have e : need r.c 0 n h = a := Option.some.inj e
    have c1 := (C r (best_in hb).1).1
    subst e
    exact ⟨r, rfl, need_pos (by omega) (by omega), need_le (by omega) (by omega)⟩
theorem behind_in {rs : List Rw} {n h k : Int} (C : Counts rs) (h1 : 1 ≤ h) (hn : h ≤ n) (n8 : n ≤ 8) (e : behind (cO rs false) (cO rs true) n h = some k) : ∃ r, bestR rs true = some r ∧ 1 ≤ k ∧ k ≤ 9 ∧ (bestR rs false = none → k = 1) := by
  unfold behind cO at e
  cases hb : bestR rs true with
  | none => rw [hb] at e; cases e
  | some r =>
    rw [hb] at e
    have c1 := (C r (best_in hb).1).1
    refine ⟨r, rfl, ?_⟩
    have e : (if n - h + 1 ≤ r.c then some 1 else ((bestR rs false).map (·.c)).map fun c => 1 + need c r.c n h) = some k := e
    by_cases g : n - h + 1 ≤ r.c
    · rw [if_pos g] at e
      have e := Option.some.inj e
      omega
    · rw [if_neg g] at e
      cases hf : bestR rs false with
      | none => rw [hf] at e; cases e
      | some z =>
        rw [hf] at e
        have e : 1 + need z.c r.c n h = k := Option.some.inj e
        have z1 := (C z (best_in hf).1).1
        have := need_nn (c := z.c) (s := r.c) (n := n) (h := h) (by omega) (by omega)
        have := need_le (c := z.c) (s := r.c) (n := n) (h := h) (by omega) (by omega)
        refine ⟨by omega, by omega, fun w => by cases w⟩
theorem beh_len {L n h : Int} {rs : List Rw} {l : List Pul} (C : Counts rs) (h1 : 1 ≤ h) (hn : h ≤ n) (n8 : n ≤ 8) (e : behP L n h rs = some l) : 1 ≤ l.length ∧ l.length ≤ 20 := by
  unfold behP at e
  cases hb : behind (cO rs false) (cO rs true) n h with
  | none => rw [hb] at e; cases e
  | some k =>
    obtain ⟨r, hr, k1, k9, _⟩ := behind_in C h1 hn n8 hb
    rw [hb, hr] at e
    have e := Option.some.inj e
    subst e
    have := pps_len (o := bestR rs false) (L := L) (s := r.c) (h := h) (k := (k - 1).toNat)
    rw [List.length_cons]
    omega
theorem plain_len {L n h : Int} {rs : List Rw} {l : List Pul} (C : Counts rs) (h1 : 1 ≤ h) (hn : h ≤ n) (n8 : n ≤ 8) (e : plainP L n h rs = some l) : 1 ≤ l.length ∧ l.length ≤ 20 := by
  unfold plainP at e
  cases ha : alone (cO rs false) n h with
  | none => rw [ha] at e; exact beh_len C h1 hn n8 e
  | some a =>
    obtain ⟨r, hr, a1, a8⟩ := alone_in C h1 hn n8 ha
    rw [ha] at e
    have e : (if leO a (behind (cO rs false) (cO rs true) n h) = true then some (ppO (bestR rs false) L 0 a.toNat h) else behP L n h rs) = some l := e
    by_cases g : leO a (behind (cO rs false) (cO rs true) n h) = true
    · rw [if_pos g] at e
      have e := Option.some.inj e
      subst e
      rw [hr]
      show 1 ≤ (ppL r.w r.c L 0 a.toNat h).length ∧ _
      unfold ppL ppO ppL
      rw [List.length_map, List.length_range]
      omega
    · rw [if_neg g] at e
      exact beh_len C h1 hn n8 e
theorem shy_len {ds : List Nat} {bs : List Bx} {n : Nat} {h : Int} {l : List Pul} (n8 : n ≤ 8) (e : shyP ds bs n h = some l) : 1 ≤ l.length ∧ l.length ≤ 20 := by
  unfold shyP at e
  by_cases g : h = 1
  · rw [if_pos g] at e; cases e
  · rw [if_neg g] at e
    match bs, e with
    | [], e => cases e
    | x :: bs, e =>
      have e : (match (x :: bs).filter (·.2) with
        | y :: _ => some [(1, numS y.1)]
        | [] => some ((List.range (n - 2 + 1)).map fun i => (atF (sLn ds) ((n : Int) * sLn x.1) i, numS x.1))) = some l := e
      cases hf : (x :: bs).filter (·.2) with
      | nil =>
        rw [hf] at e
        have e := Option.some.inj e
        subst e
        rw [List.length_map, List.length_range]
        omega
      | cons y ys =>
        rw [hf] at e
        have e := Option.some.inj e
        subst e
        exact ⟨Nat.le_refl _, by show 1 ≤ 20; decide⟩
theorem BestV.k {H H' : Hp} {v : V} {o : Option Rw} (h : BestV K H v o) (s : Same H H') : BestV K H' v o := by
  cases o with
  | none => exact h
  | some r =>
    obtain ⟨q, e, hq⟩ := h
    exact ⟨q, e, sameT s hq⟩
theorem best_row_or {rs : List Rw} {H : Hp} {v : V} {many : Int} (h : BestV K H v (bestR rs false)) (z : bestR rs false = none → many ≤ 0) : (match bestR rs false with | none => many ≤ 0 | some r => RowAt K H v r) := by
  cases hb : bestR rs false with
  | none => exact z hb
  | some r =>
    rw [hb] at h
    exact h
theorem PulS.cons {H : Hp} {q : Addr} {p : Pul} {xs : List V} {l : List Pul} (h : PulS K H xs l) (hq : SqT K H q [.int p.1, .str p.2]) : PulS K H (.ref q :: xs) (p :: l) := ⟨by rw [List.length_cons, List.length_cons, h.1], fun i v hv => by
  match i, hv with
  | 0, hv => exact ⟨p, q, rfl, (Option.some.inj hv).symm, hq⟩
  | i + 1, hv => exact h.2 i v (by simpa using hv)⟩
theorem ok_pulls_on_plain (T : Txt K mg) : FnOk P w K mg base CX0 7 T.a_pulls_on_plain T.d_pulls_on_plain ["table", "number", "rounds", "hear"] (sp_pulls_on_plain K) := by
  refine T.F_pulls_on_plain.ok sc_pulls_on_plain (fun vs H Q E h => ?_) (fun cdv A outer s H vs Q E hr h => ?_)
  · obtain ⟨t, ys, rs, ds, n, hh, rfl, _⟩ := h
    rfl
  · obtain ⟨t, ys, rs, ds, n, hh, rfl, N, hS, hR, hC, R, k⟩ := h
    obtain ⟨n1, n8, h1, h2, hn⟩ := R
    have hT : Kd.Is K true H t ys := .tup hS
    refine ⟨_, (pss_cons (ps_set (i := 4) sc_pulls_on_plain.nd rfl (Or.inl rfl) (pe_call (ok_pulls_alone T) (hr.mono (by decide)) (by rfl) T.g_pulls_alone T.F_pulls_alone.kp T.b_pulls_alone .nil pass0 (pa_cons (pv 0) (pa_cons (pv 2) (pa_cons (pv 3) pa_nil)))))
      (pss_cons (ps_set (i := 5) sc_pulls_on_plain.nd rfl (Or.inl rfl) (pe_call (ok_pulls_behind_shy T) (hr.mono (by decide)) (by rfl) T.g_pulls_behind_shy T.F_pulls_behind_shy.kp T.b_pulls_behind_shy .nil pass0 (pa_cons (pv 0) (pa_cons (pv 2) (pa_cons (pv 3) pa_nil)))))
      (pss_cons (ps_set (i := 6) sc_pulls_on_plain.nd rfl (Or.inl rfl) (pe_call (ok_best_row T) (hr.mono (by decide)) (by rfl) T.g_best_row T.F_best_row.kp T.b_best_row .nil pass0 (pa_cons (pv 0) (pa_cons (ClX.pe_cval (pe_glob (v := V.ref T.W) rfl T.gW rfl)) pa_nil))))
      (pss_cons (ps_if (PW.pt (pw_and (pt_cmpR op_notN (pv 4) pe_non (nomark _)) (pw_and1 (PW.pt (pw_or (pt_cmpR op_isN (pv 5) pe_non (nomark _)) (pw_or1 (pt_cmpR op_le (pv 4) (pv 5) (nomark _))))))))
        (pss_one (ps_ret (pe_call (ok_plain_pulls T) (hr.mono (by decide)) (by rfl) T.g_plain_pulls T.F_plain_pulls.kp T.b_plain_pulls .nil pass0 (pa_cons (pv 6) (pa_cons (pv 1) (pa_cons pe_int (pa_cons (pv 4) (pa_cons (pv 3) pa_nil))))))))
        pss_nil)
      (pss_cons (ps_if (pt_cmpR op_isN (pv 5) pe_non (nomark _))
        (pss_one (ps_ret pe_non))
        pss_nil)
      (pss_cons (ps_asg (pe_call (ok_best_row T) (hr.mono (by decide)) (by rfl) T.g_best_row T.F_best_row.kp T.b_best_row .nil pass0 (pa_cons (pv 0) (pa_cons (ClX.pe_cval (pe_glob (v := V.ref T.W) rfl T.gW rfl)) pa_nil))) (pg_tup rfl (pgs_cons (pg_name (i := 7) sc_pulls_on_plain.nd rfl (Or.inl rfl)) (pgs_cons (pg_name (i := 8) sc_pulls_on_plain.nd rfl (Or.inl rfl)) (pgs_cons (pg_name (i := 9) sc_pulls_on_plain.nd rfl (Or.inl rfl)) (pgs_cons (pg_name (i := 10) sc_pulls_on_plain.nd rfl (Or.inl rfl)) pgs_nil))))))
      (pss_one (ps_ret (pe_op op_catA (pe_tup (pa_cons (pe_tup (pa_cons (pv 10) (pa_cons (pv 7) pa_nil))) pa_nil)) (pe_call (ok_plain_pulls T) (hr.mono (by decide)) (by rfl) T.g_plain_pulls T.F_plain_pulls.kp T.b_plain_pulls .nil pass0 (pa_cons (pv 6) (pa_cons (pv 1) (pa_cons (pv 9) (pa_cons (pe_op op_sub (pv 5) pe_int) (pa_cons (pv 3) pa_nil))))))))))))))), ?_⟩
    refine ⟨_, rfl, _, rfl, _, rfl, t, true, ys, rs, n, hh, rfl, hT, hR, hC, h1, h2, ?_⟩
    refine ⟨_, rfl, _, rfl, _, rfl, t, true, ys, rs, n, hh, rfl, hT, hR, hC, h1, h2, ?_⟩
    refine ⟨_, rfl, T.W, T.mc, _, _, rfl, T.rd, T.vP, t, true, ys, rs, false, rfl, hT, hR, fun v6 h6 => ?_⟩
    cases ha : alone (cO rs false) n hh with
    | none =>
      have hpl : plainP (sLn ds) n hh rs = behP (sLn ds) n hh rs := by unfold plainP; rw [ha]
      refine ⟨_, rfl, rfl, _, rfl, iteF ?_⟩
      cases hb : behind (cO rs false) (cO rs true) n hh with
      | none =>
        refine ⟨_, rfl, rfl, _, rfl, iteT ?_⟩
        refine k _ _ (Same.refl _) ?_
        rw [hpl]
        unfold behP
        rw [hb]
        exact rfl
      | some kk =>
        obtain ⟨r, hr, k1, k9, k0⟩ := behind_in hC h1 hn (by omega) hb
        refine ⟨_, rfl, rfl, _, rfl, iteF ?_⟩
        refine ⟨_, rfl, T.W, T.mc, _, _, rfl, T.rd, T.vS, t, true, ys, rs, true, rfl, hT, hR, fun v7 h7 => ?_⟩
        rw [hr] at h7
        obtain ⟨u, rfl, hu⟩ := h7
        refine ⟨u, _, rfl, hu, rfl, _, _, rfl, _, _, rfl, _, _, rfl, _, _, rfl, rfl, ?_⟩
        refine ⟨_, rfl, _, rfl, by show 2 ≤ sizeLine; decide, fun t1 ht1 => ?_⟩
        have s1 := same_new (o := .tup [.int r.a, .str r.w]) ht1
        refine ⟨by show 1 ≤ sizeLine; decide, fun t2 ht2 => ?_⟩
        have s2 := same_new (o := .tup [.ref t1]) ht2
        have x1 := s2 _ _ (upd_same (H := H) (a := t1) (o := .tup [.int r.a, .str r.w]))
        have x2 := upd_same (H := upd H t1 (.tup [.int r.a, .str r.w])) (a := t2) (o := .tup [.ref t1])
        have s12 := s1.trans s2
        generalize upd (upd H t1 (.tup [.int r.a, .str r.w])) t2 (.tup [.ref t1]) = H2 at *
        refine ⟨_, rfl, _, rfl, _, rfl, _, rfl, _, _, rfl, rfl, _, rfl, v6, bestR rs false, ds, r.c, kk - 1, hh, rfl, N, best_row_or (h6.k s12) (fun z => by have := k0 z; omega), by omega, by omega, fun H3 t3 zs s3 f3 ht3 hp3 => ?_⟩
        have s13 := s12.trans s3
        have hl := hp3.1
        have pl := pps_len (o := bestR rs false) (L := sLn ds) (s := r.c) (h := hh) (k := (kk - 1).toNat)
        have e : plainP (sLn ds) n hh rs = some ((r.a, r.w) :: ppO (bestR rs false) (sLn ds) r.c (kk - 1).toNat hh) := by
          rw [hpl]
          unfold behP
          rw [hb, hr]
        have y1 := SqT.of (K := K) (s3 _ _ x1)
        refine ⟨t2, t3, _, _, rfl, rfl, SqT.of (s3 _ _ x2), SqT.of ht3, Nat.le_of_lt (small1000 (by rw [hl]; show 1 + _ ≤ 1000; omega)), fun z => (by cases z), fun _ z => ?_, fun _ _ p hp => ?_⟩
        · subst z
          refine k _ _ s13 ?_
          rw [e]
          exact ⟨t2, [.ref t1], rfl, SqT.of (s3 _ _ x2), hp3.cons y1⟩
        · have sp := same_new (o := .tup ([.ref t1] ++ zs)) hp
          refine k _ _ (s13.trans sp) ?_
          rw [e]
          exact ⟨p, _, rfl, SqT.of upd_same, (hp3.k sp).cons (sameT sp y1)⟩
    | some a =>
      obtain ⟨r0, hr0, a1, a8⟩ := alone_in hC h1 hn (by omega) ha
      refine ⟨_, rfl, rfl, _, rfl, iteT ?_⟩
      have first : ∀ (c : leO a (behind (cO rs false) (cO rs true) n hh) = true), plainP (sLn ds) n hh rs = some (ppO (bestR rs false) (sLn ds) 0 a.toNat hh) := fun c => by
        unfold plainP
        rw [ha]
        show (if leO a (behind (cO rs false) (cO rs true) n hh) = true then _ else _) = _
        rw [if_pos c]
      cases hb0 : behind (cO rs false) (cO rs true) n hh with
      | none =>
        have e := first (by rw [hb0]; rfl)
        refine ⟨_, rfl, rfl, _, rfl, iteT ?_⟩
        refine ⟨_, rfl, _, rfl, _, rfl, _, rfl, v6, bestR rs false, ds, 0, a, hh, rfl, N, best_row_or h6 (fun z => by rw [z] at hr0; cases hr0), by omega, by omega, fun H3 t3 zs s3 f3 ht3 hp3 => ?_⟩
        refine k _ _ s3 ?_
        rw [e]
        exact ⟨t3, zs, rfl, SqT.of ht3, hp3⟩
      | some kb =>
        refine ⟨_, rfl, rfl, _, rfl, iteF ?_⟩
        refine ⟨_, rfl, _, rfl, _, _, rfl, rfl, _, rfl, ite2 (fun c => ?_) (fun c => ?_)⟩
        · have e := first (by rw [hb0]; exact c)
          refine ⟨_, rfl, _, rfl, _, rfl, _, rfl, v6, bestR rs false, ds, 0, a, hh, rfl, N, best_row_or h6 (fun z => by rw [z] at hr0; cases hr0), by omega, by omega, fun H3 t3 zs s3 f3 ht3 hp3 => ?_⟩
          refine k _ _ s3 ?_
          rw [e]
          exact ⟨t3, zs, rfl, SqT.of ht3, hp3⟩
        · have hpl : plainP (sLn ds) n hh rs = behP (sLn ds) n hh rs := by
            unfold plainP
            rw [ha]
            show (if leO a (behind (cO rs false) (cO rs true) n hh) = true then _ else _) = _
            rw [if_neg (by rw [hb0]; exact c)]
          rw [← hb0]
          cases hb : behind (cO rs false) (cO rs true) n hh with
          | none =>
            refine ⟨_, rfl, rfl, _, rfl, iteT ?_⟩
            refine k _ _ (Same.refl _) ?_
            rw [hpl]
            unfold behP
            rw [hb]
            exact rfl
          | some kk =>
            obtain ⟨r, hr, k1, k9, k0⟩ := behind_in hC h1 hn (by omega) hb
            refine ⟨_, rfl, rfl, _, rfl, iteF ?_⟩
            refine ⟨_, rfl, T.W, T.mc, _, _, rfl, T.rd, T.vS, t, true, ys, rs, true, rfl, hT, hR, fun v7 h7 => ?_⟩
            rw [hr] at h7
            obtain ⟨u, rfl, hu⟩ := h7
            refine ⟨u, _, rfl, hu, rfl, _, _, rfl, _, _, rfl, _, _, rfl, _, _, rfl, rfl, ?_⟩
            refine ⟨_, rfl, _, rfl, by show 2 ≤ sizeLine; decide, fun t1 ht1 => ?_⟩
            have s1 := same_new (o := .tup [.int r.a, .str r.w]) ht1
            refine ⟨by show 1 ≤ sizeLine; decide, fun t2 ht2 => ?_⟩
            have s2 := same_new (o := .tup [.ref t1]) ht2
            have x1 := s2 _ _ (upd_same (H := H) (a := t1) (o := .tup [.int r.a, .str r.w]))
            have x2 := upd_same (H := upd H t1 (.tup [.int r.a, .str r.w])) (a := t2) (o := .tup [.ref t1])
            have s12 := s1.trans s2
            generalize upd (upd H t1 (.tup [.int r.a, .str r.w])) t2 (.tup [.ref t1]) = H2 at *
            refine ⟨_, rfl, _, rfl, _, rfl, _, rfl, _, _, rfl, rfl, _, rfl, v6, bestR rs false, ds, r.c, kk - 1, hh, rfl, N, best_row_or (h6.k s12) (fun z => by have := k0 z; omega), by omega, by omega, fun H3 t3 zs s3 f3 ht3 hp3 => ?_⟩
            have s13 := s12.trans s3
            have hl := hp3.1
            have pl := pps_len (o := bestR rs false) (L := sLn ds) (s := r.c) (h := hh) (k := (kk - 1).toNat)
            have e : plainP (sLn ds) n hh rs = some ((r.a, r.w) :: ppO (bestR rs false) (sLn ds) r.c (kk - 1).toNat hh) := by
              rw [hpl]
              unfold behP
              rw [hb, hr]
            have y1 := SqT.of (K := K) (s3 _ _ x1)
            refine ⟨t2, t3, _, _, rfl, rfl, SqT.of (s3 _ _ x2), SqT.of ht3, Nat.le_of_lt (small1000 (by rw [hl]; show 1 + _ ≤ 1000; omega)), fun z => (by cases z), fun _ z => ?_, fun _ _ p hp => ?_⟩
            · subst z
              refine k _ _ s13 ?_
              rw [e]
              exact ⟨t2, [.ref t1], rfl, SqT.of (s3 _ _ x2), hp3.cons y1⟩
            · have sp := same_new (o := .tup ([.ref t1] ++ zs)) hp
              refine k _ _ (s13.trans sp) ?_
              rw [e]
              exact ⟨p, _, rfl, SqT.of upd_same, (hp3.k sp).cons (sameT sp y1)⟩
end
end K47

namespace K47
open PySem L2 Wm TL Dv
section
variable {P : Program} {w : World} {K : PySem.W.Frag} {mg : Str → Option Value} {base : Heap}
theorem filb_succ {α : Type} (f : α → Bool) {xs : List α} {i : Nat} {z : α} (h : xs[i]? = some z) : (xs.take (i + 1)).filter f = (xs.take i).filter f ++ (if f z = true then [z] else []) := by
  rw [tk_succ h, List.filter_append]
  congr 1
  cases hz : f z <;> simp [hz]
theorem srt_shy (b : Bool) : decide (V.str (srt b) = V.str "shy") = b := by cases b <;> decide +kernel
theorem srt_plain (b : Bool) : decide (V.str (srt b) = V.str "plain") = !b := by cases b <;> decide +kernel
theorem PulS.kt {H H' : Hp} {xs : List V} {l : List Pul} (h : PulS K H xs l) (s : Kt K H H') : PulS K H' xs l := ⟨h.1, fun i v hv => by
  obtain ⟨p, q, a, b, c⟩ := h.2 i v hv
  exact ⟨p, q, a, b, s _ _ c⟩⟩
theorem PulS.snoc {H : Hp} {xs : List V} {l : List Pul} {q : Addr} {p : Pul} (h : PulS K H xs l) (hq : SqT K H q [.int p.1, .str p.2]) : PulS K H (xs ++ [.ref q]) (l ++ [p]) := ⟨by rw [List.length_append, List.length_append, h.1]; rfl, fun i v hv => by
  by_cases c : i < xs.length
  · rw [List.getElem?_append_left c] at hv
    obtain ⟨y, r, hy, e, hr⟩ := h.2 i v hv
    exact ⟨y, r, by rw [List.getElem?_append_left (by have := h.1; omega)]; exact hy, e, hr⟩
  · have il := (List.getElem?_eq_some_iff.mp hv).1
    rw [List.length_append] at il
    have : i = xs.length := by simp at il; omega
    subst this
    rw [List.getElem?_append_right (Nat.le_refl _), Nat.sub_self] at hv
    exact ⟨p, q, by rw [h.1, List.getElem?_append_right (Nat.le_refl _), Nat.sub_self]; rfl, (Option.some.inj hv).symm, hq⟩⟩
theorem iteY {c : Bool} {A B : Prop} (e : c = true) (h : A) : if c = true then A else B := by
  rw [e]
  exact iteT h
theorem at_succ (L M : Int) (i : Nat) : atF L M (i + 1) = atF L M i + (L + M + 3 + (1 + (i : Int))) := by
  show atF L M i + (L + M + 3 + ((i : Int) + 1)) = _
  omega
theorem ok_pulls_on_shy (T : Txt K mg) : FnOk P w K mg base CX0 6 T.a_pulls_on_shy T.d_pulls_on_shy ["boxes", "number", "rounds", "hear"] (sp_pulls_on_shy K) := by
  refine T.F_pulls_on_shy.ok sc_pulls_on_shy (fun vs H Q E h => ?_) (fun cdv A outer s H vs Q E hr h => ?_)
  · obtain ⟨p, xs, bs, ds, n, hh, rfl, _⟩ := h
    rfl
  · obtain ⟨p, xs, bs, ds, n, hh, rfl, hS, hb, G, R, k⟩ := h
    obtain ⟨n1, n8, h1, h2, hn⟩ := R
    have N := G.N
    have rp := row_pos N
    have gl := G.len
    refine ⟨_, (pss_cons (ps_if (PW.pt (pw_or (pt_cmpR op_eq (pv 3) pe_int (nomark _)) (pw_or1 (pt_cmpR op_eq (pe_callB call_len_seq (by rfl) T.z_len PySem.boot_len (pa_cons (pv 0) pa_nil)) pe_int (nomark _)))))
        (pss_one (ps_ret pe_non))
        pss_nil)
      (pss_cons (ps_setLc (i := 4) (own := [("other", 5), ("sort", 6)]) (g := gTup K 2 (gCons (gName 5) (gCons (gName 6) (gNil)))) rfl sc_pulls_on_shy.nd rfl rfl (sw_true rfl rfl rfl (by decide +kernel)) (pi_list (pv 0)) (blkOk_by (own := [("other", 5), ("sort", 6)]) (N := nm_pulls_on_shy) (sc := (defScope s_pulls_on_shy)) (by decide +kernel)) (fun _ _ _ _ _ => (pg_tup rfl (pgs_cons (pg_name (i := 5) sc_pulls_on_shy.nd rfl (Or.inl rfl)) (pgs_cons (pg_name (i := 6) sc_pulls_on_shy.nd rfl (Or.inl rfl)) pgs_nil)))) (fun _ _ _ _ _ => (pts_one (pt_cmpR op_eq (pv 6) (show PE _ _ (ClX.tCVal K (tC (V.ref T.W)) "SHY") from by exact ClX.pe_cval (pe_glob (v := V.ref T.W) rfl T.gW rfl)) (nomark _)))) (fun _ _ _ _ _ => (pv 5)))
      (pss_cons (ps_if (pt_cmpR op_gt (pe_callB call_len_seq (by rfl) T.z_len PySem.boot_len (pa_cons (pv 4) pa_nil)) pe_int (nomark _))
        (pss_one (ps_ret (pe_tup (pa_cons (pe_tup (pa_cons pe_int (pa_cons (pe_ix ix_list (pv 4) pe_int (fun _ _ => rfl)) pa_nil))) pa_nil))))
        pss_nil)
      (pss_cons (ps_set (i := 5) sc_pulls_on_shy.nd rfl (Or.inl rfl) (pe_ix ix_tup (pe_ix ix_list (pv 0) pe_int (fun _ _ => rfl)) pe_int (fun _ _ => rfl)))
      (pss_cons (ps_set (i := 7) sc_pulls_on_shy.nd rfl (Or.inl rfl) (pe_call (ok_length_of T) (hr.mono (by decide)) (by rfl) T.g_length_of T.F_length_of.kp T.b_length_of .nil Mk1.passF (pa_cons (pv 1) pa_nil)))
      (pss_cons (ps_set (i := 8) sc_pulls_on_shy.nd rfl (Or.inl rfl) (pv 7))
      (pss_cons (ps_set (i := 9) sc_pulls_on_shy.nd rfl (Or.inl rfl) (pe_lst (pa_cons (pe_tup (pa_cons (pv 8) (pa_cons (pv 5) pa_nil))) pa_nil)))
      (pss_cons (ps_for PassesOwn.never rfl (pi_range2 (by rfl) T.z_range (pa_cons pe_int (pa_cons (pe_op op_sub (pv 2) pe_int) pa_nil))) (pg_name (i := 10) sc_pulls_on_shy.nd rfl (Or.inl rfl))
        (pss_cons (ps_aug (i := 8) sc_pulls_on_shy.nd rfl (Or.inl rfl) (pe_op op_add (pe_op op_add (pe_op op_add (pv 7) (pe_op op_mul (pv 2) (pe_call (ok_length_of T) (hr.mono (by decide)) (by rfl) T.g_length_of T.F_length_of.kp T.b_length_of .nil Mk1.passF (pa_cons (pv 5) pa_nil)))) (pe_glob (v := V.int 3) rfl T.c_WAIT ⟨_, rfl⟩)) (pv 10)) ip_add)
        (pss_one (ps_expr (pe_bm PySem.F.plainAttrs_list PySem.F.slot_list_append PySem.F.type_list_append mt_append (pv 9) (pa_cons (pe_tup (pa_cons (pv 8) (pa_cons (pv 5) pa_nil))) pa_nil))))))
      (pss_one (ps_ret (pe_callTy call_tuple_of (by rfl) T.z_tuple (by decide +kernel) (pa_cons (pv 9) pa_nil)))))))))))), ?_⟩
    refine ⟨_, rfl, rfl, _, rfl, ite2 (fun c => ?_) (fun c => ?_)⟩
    · have c : hh = 1 := V.int.inj (of_decide_eq_true c)
      refine k _ _ (Same.refl _) ?_
      unfold shyP
      rw [if_pos c]
      exact rfl
    have c1 : hh ≠ 1 := fun z => c (decide_eq_true (by rw [z]))
    clear c
    refine ⟨_, rfl, p, _, rfl, .inl hS, rfl, _, rfl, ite2 (fun c => ?_) (fun c => ?_)⟩
    · have c : ((xs.length : Nat) : Int) = 0 := V.int.inj (of_decide_eq_true c)
      refine k _ _ (Same.refl _) ?_
      have : bs = [] := List.length_eq_zero_iff.mp (by have := hb.1; omega)
      subst this
      unfold shyP
      rw [if_neg c1]
      exact rfl
    have c2 : bs ≠ [] := fun z => c (decide_eq_true (by have := hb.1; rw [z] at this; rw [this]; rfl))
    clear c
    refine ⟨_, rfl, p, rfl, ⟨_, hS⟩, fun D hD => ?_⟩
    refine lc_it walk_list (fun i A => Same H A ∧ A D = some (.lst (((bs.take i).filter (·.2)).map fun b => V.str (numS b.1)))) ⟨same_new hD, upd_same⟩ (fun i A _ h => Hf.keepL h.1 hS) (fun i v A A' hi hP hY => ?_) (fun A hP => ?_)
    · obtain ⟨sA, hL⟩ := hP
      obtain ⟨rfl, hv⟩ := hY
      obtain ⟨y, hby, q1, rfl, hq⟩ := hb.2 i v hv
      have hq := sameT sA hq
      refine ⟨q1, _, rfl, hq, rfl, _, _, rfl, _, _, rfl, rfl, rfl, ?_⟩
      refine ⟨_, rfl, T.W, T.mc, _, _, rfl, T.rd, T.vS, rfl, _, rfl, ?_⟩
      rw [srt_shy, filb_succ _ hby]
      refine ite2 (fun c => ?_) (fun c => ?_)
      · rw [if_pos c]
        refine ⟨_, rfl, _, hL, ?_, same_mut sA hD, ?_⟩
        · rw [List.length_map]
          have := List.length_filter_le (fun x : Bx => x.2) (bs.take i)
          rw [List.length_take] at this
          exact small1000 (by omega)
        · rw [upd_same, List.map_append]
          rfl
      · rw [if_neg c, List.append_nil]
        exact ⟨sA, hL⟩
    obtain ⟨sA, hL⟩ := hP
    rw [hb.1, List.take_of_length_le (Nat.le_refl _)] at hL
    obtain ⟨x, br, ebs⟩ : ∃ x br, bs = x :: br := by
      cases bs with
      | nil => exact absurd rfl c2
      | cons x br => exact ⟨x, br, rfl⟩
    refine ⟨_, rfl, D, _, rfl, .inl (SqL.of hL), _, _, rfl, rfl, _, rfl, ?_⟩
    cases hf : bs.filter (·.2) with
    | cons y yr =>
      rw [hf] at hL
      refine iteY (decide_eq_true (by rw [List.length_map, List.length_cons]; omega)) ?_
      refine ⟨_, rfl, D, _, 0, _, rfl, rfl, SqL.of hL, atI_nat (j := 0) rfl, by show 2 ≤ sizeLine; decide, fun t1 ht1 => ?_⟩
      have s1 := same_new (o := .tup [.int 1, .str (numS y.1)]) ht1
      refine ⟨by show 1 ≤ sizeLine; decide, fun t2 ht2 => ?_⟩
      have s2 := same_new (o := .tup [.ref t1]) ht2
      refine k _ _ ((sA.trans s1).trans s2) ?_
      unfold shyP
      rw [if_neg c1, ebs]
      show PulO K _ _ (match (x :: br).filter (·.2) with
        | y :: _ => some [(1, numS y.1)]
        | [] => some ((List.range (n - 2 + 1)).map fun i => (atF (sLn ds) ((n : Int) * sLn x.1) i, numS x.1)))
      rw [← ebs, hf]
      exact ⟨t2, [.ref t1], rfl, SqT.of upd_same, PulS.cons ⟨rfl, fun i v hv => by cases hv⟩ (SqT.of (s2 _ _ upd_same))⟩
    | nil =>
      refine iteF ?_
      have hSA := Hf.keepL sA hS
      have M : Num x.1 := G.num x (by rw [ebs]; exact List.mem_cons_self)
      have rq := row_pos M
      obtain ⟨v0, hv0⟩ : ∃ v, xs[0]? = some v := ⟨_, List.getElem?_eq_getElem (by have := hb.1; rw [ebs] at this; rw [this, List.length_cons]; omega)⟩
      obtain ⟨x0, hx0, u, rfl, hu⟩ := hb.2 0 v0 hv0
      have e0 : x0 = x := by
        rw [ebs] at hx0
        exact (Option.some.inj hx0).symm
      subst e0
      have huA := sameT sA hu
      refine ⟨_, rfl, p, _, 0, _, rfl, rfl, hSA, atI_nat (j := 0) hv0, u, _, 0, _, rfl, rfl, huA, atI_nat (j := 0) rfl, ?_⟩
      refine ⟨_, rfl, _, _, rfl, ob_num N, fun ds' N' e' H1 s1 => ?_, fun m => absurd ⟨ds, N, rfl⟩ m⟩
      have e0 : ds = ds' := numS_inj (V.str.inj e')
      subst e0
      refine ⟨_, rfl, ?_⟩
      refine ⟨_, rfl, _, rfl, by show 2 ≤ sizeLine; decide, fun t1 ht1 => ?_⟩
      have s2 := same_new (o := .tup [.int (((rowL ds).length : Nat) : Int), .str (numS x0.1)]) ht1
      refine ⟨by show 1 ≤ sizeLine; decide, fun f hf2 => ?_⟩
      have s3 := same_new (o := .lst [.ref t1]) hf2
      have y1 := s3 _ _ (upd_same (H := H1) (a := t1) (o := .tup [.int (((rowL ds).length : Nat) : Int), .str (numS x0.1)]))
      have y2 := upd_same (H := upd H1 t1 (.tup [.int (((rowL ds).length : Nat) : Int), .str (numS x0.1)])) (a := f) (o := .lst [V.ref t1])
      have s13 := ((sA.trans s1).trans s2)
      have sH2 := s13.trans s3
      have ff := s13.free hf2
      generalize upd (upd H1 t1 (.tup [.int (((rowL ds).length : Nat) : Int), .str (numS x0.1)])) f (.lst [.ref t1]) = H2 at *
      refine ⟨_, rfl, _, _, rfl, rfl, _, _, rfl, ⟨by omega, by omega, by omega, by omega⟩, ?_⟩
      have en : (((n : Nat) : Int) - 1 - 1).toNat = n - 2 := by omega
      refine for_range (fun i σ A => ∃ (v10 : Option V) (ws : List V), σ = [some (.ref p), some (.str (numS ds)), some (.int (n : Nat)), some (.int hh), some (.ref D), some (.str (numS x0.1)), none, some (.int (sLn ds)), some (.int (atF (sLn ds) ((n : Int) * sLn x0.1) i)), some (.ref f), v10] ∧
        (∀ q o, q ≠ f → H2 q = some o → A q = some o) ∧ A f = some (.lst ws) ∧ PulS K A ws ((List.range (i + 1)).map fun i => (atF (sLn ds) ((n : Int) * sLn x0.1) i, numS x0.1)))
        ⟨none, [.ref t1], rfl, fun q o _ e => e, y2, PulS.cons ⟨rfl, fun i v hv => by cases hv⟩ (SqT.of y1)⟩ (fun i σ A hi hP => ?_) (fun σ A hP => ?_)
      · obtain ⟨v10, ws, rfl, sA2, hws, hpl⟩ := hP
        have hi : i < n - 2 := by omega
        have nf : ∀ q o, A q = some o → A q = some o := fun _ _ e => e
        refine ⟨_, rfl, _, rfl, _, rfl, _, rfl, _, _, rfl, ob_num M, fun es' M' e' A1 q1 => ?_, fun m => absurd ⟨_, M, rfl⟩ m⟩
        have e0 : x0.1 = es' := numS_inj (V.str.inj e')
        subst e0
        refine ⟨_, _, rfl, rfl, .inl ⟨by omega, by omega⟩, _, _, rfl, rfl, _, _, rfl, rfl, _, rfl, _, _, rfl, rfl, _, _, rfl, rfl, ?_⟩
        refine ⟨_, rfl, .inl ⟨rfl, _, SqL.of (q1 _ _ hws)⟩, _, rfl, _, rfl, by show 2 ≤ sizeLine; decide, fun t3 ht3 => ?_⟩
        have q2 := same_new (o := .tup [.int (atF (sLn ds) ((n : Int) * sLn x0.1) (i + 1)), .str (numS x0.1)]) ht3
        have hl := hpl.1
        rw [List.length_map, List.length_range] at hl
        have h2' := hpl.k (q1.trans q2)
        have hw2 := q2 _ _ (q1 _ _ hws)
        have nft : t3 ≠ f := fun z => by subst z; rw [q1 _ _ hws] at ht3; cases ht3
        have ex : upd A1 t3 (.tup [.int (atF (sLn ds) ((n : Int) * sLn x0.1) (i + 1)), .str (numS x0.1)]) t3 = some (.tup [.int (atF (sLn ds) ((n : Int) * sLn x0.1) (i + 1)), .str (numS x0.1)]) := upd_same
        rw [at_succ] at q2 h2' hw2 ex
        refine ⟨f, _, _, rfl, rfl, hw2, small1000 (by omega), ?_⟩
        refine ⟨_, ws ++ [.ref t3], by rw [at_succ]; rfl, fun q o nq e => by rw [upd_ne nq]; exact q2 _ _ (q1 _ _ (sA2 q o nq e)), upd_same, ?_⟩
        rw [List.range_succ, List.map_append]
        refine ((h2'.kt (Kt.lst hw2)).snoc (p := (atF (sLn ds) ((n : Int) * sLn x0.1) (i + 1), numS x0.1)) (SqT.of ?_))
        rw [upd_ne nft, at_succ]
        exact ex
      · obtain ⟨v10, ws, rfl, sA2, hws, hpl⟩ := hP
        rw [en] at hpl
        refine ⟨_, rfl, f, _, rfl, .inl ⟨SqL.of hws, fun t ht => ?_⟩⟩
        have st := same_new (o := .tup ws) ht
        refine k _ _ (fun q o e => st _ _ (sA2 q o (fun z => by subst z; rw [e] at ff; cases ff) (sH2 _ _ e))) ?_
        unfold shyP
        rw [if_neg c1, ebs]
        show PulO K _ _ (match (x0 :: br).filter (·.2) with
          | y :: _ => some [(1, numS y.1)]
          | [] => some ((List.range (n - 2 + 1)).map fun i => (atF (sLn ds) ((n : Int) * sLn x0.1) i, numS x0.1)))
        rw [← ebs, hf]
        exact ⟨t, ws, rfl, SqT.of upd_same, hpl.k st⟩
end
end K47

namespace K47
open PySem L2 Wm TL Dv
section
variable {P : Program} {w : World} {K : PySem.W.Frag} {mg : Str → Option Value} {base : Heap}
theorem BxsAt.kt {H H' : Hp} {xs : List V} {bs : List Bx} (h : BxsAt K H xs bs) (s : Kt K H H') : BxsAt K H' xs bs := ⟨h.1, fun i v hv => by
  obtain ⟨x, hx, q, e, hq⟩ := h.2 i v hv
  exact ⟨x, hx, q, e, s _ _ hq⟩⟩
theorem BxsAt.snoc {H : Hp} {xs : List V} {bs : List Bx} {v : V} {x : Bx} (h : BxsAt K H xs bs) (hx : BxAt K H v x) : BxsAt K H (xs ++ [v]) (bs ++ [x]) := ⟨by rw [List.length_append, List.length_append, h.1]; rfl, fun i w hv => by
  by_cases c : i < xs.length
  · rw [List.getElem?_append_left c] at hv
    obtain ⟨y, hy, e⟩ := h.2 i w hv
    exact ⟨y, by rw [List.getElem?_append_left (by have := h.1; omega)]; exact hy, e⟩
  · have il := (List.getElem?_eq_some_iff.mp hv).1
    rw [List.length_append] at il
    have : i = xs.length := by simp at il; omega
    subst this
    rw [List.getElem?_append_right (Nat.le_refl _), Nat.sub_self] at hv
    refine ⟨x, by rw [h.1, List.getElem?_append_right (Nat.le_refl _), Nat.sub_self]; rfl, ?_⟩
    rw [← Option.some.inj hv]
    exact hx⟩
theorem ne_num (a b : List Nat) : (!decide (V.str (numS a) = V.str (numS b))) = decide (a ≠ b) := by
  by_cases e : a = b
  · subst e; simp
  · rw [decide_eq_false fun z => e (numS_inj (V.str.inj z)), decide_eq_true e]
    rfl
theorem oth_len (bs : List Bx) (ds : List Nat) : (othL bs ds).length ≤ bs.length := List.length_filter_le _ _
theorem Good.rows {ds : List Nat} {bs : List Bx} (G : Good ds bs) {n : Nat} {rs : List Rw} (n1 : 1 ≤ n) (n8 : n ≤ 8) (hT : TabOf ds n bs rs) : Counts rs := counts_tab G.N G.num n1 n8 hT
theorem ok_others_of (T : Txt K mg) : FnOk P w K mg base CX0 1 T.a_others_of T.d_others_of ["boxes", "number"] (sp_others_of K) := by
  refine T.F_others_of.ok sc_others_of (fun vs H Q E h => ?_) (fun cdv A outer s H vs Q E hr h => ?_)
  · obtain ⟨p, t, xs, bs, ds, rfl, _⟩ := h
    rfl
  · obtain ⟨p, t, xs, bs, ds, rfl, hS, hb, hl, k⟩ := h
    refine ⟨_, (pss_one (ps_ret (pe_lc (own := [("box", 2)]) (g := gName 2) rfl sc_others_of.nd (Kd.pi_seq (pv 0)) (blkOk_by (own := [("box", 2)]) (N := nm_others_of) (sc := (defScope s_others_of)) (by decide +kernel)) (fun _ _ _ _ _ => pg_name (i := 2) sc_others_of.nd rfl (Or.inl rfl)) (fun _ _ _ _ _ => (pts_one (pt_cmpR op_ne (pe_ix (show IxR _ (rIxT K) from ix_tup) (pv 2) pe_int (fun _ _ => rfl)) (pv 1) (nomark _)))) (fun _ _ _ _ _ => (pv 2))))), ?_⟩
    refine ⟨_, rfl, p, xs, t, rfl, hS, fun J G wk hG => fun D hD => ?_⟩
    refine lc_it wk (fun i A => Same H A ∧ ∃ ys, A D = some (.lst ys) ∧ BxsAt K A ys ((bs.take i).filter fun y => decide (y.1 ≠ ds))) ⟨same_new hD, [], upd_same, rfl, fun i v hv => by cases hv⟩ (fun i A _ h => hG _ (hS.keep h.1)) (fun i v A A' hi hP hY => ?_) (fun A hP => ?_)
    · obtain ⟨sA, ys, hL, hB⟩ := hP
      obtain ⟨rfl, hv⟩ := hY
      obtain ⟨y, hby, q1, rfl, hq⟩ := hb.2 i v hv
      have hq := sameT sA hq
      refine ⟨rfl, ?_⟩
      refine ⟨_, rfl, q1, _, 0, _, rfl, rfl, hq, atI_nat (j := 0) rfl, _, rfl, rfl, _, rfl, ?_⟩
      rw [ne_num, filb_succ _ hby]
      refine ite2 (fun c => ?_) (fun c => ?_)
      · rw [if_pos c]
        have hl2 := hB.1
        have := List.length_filter_le (fun y : Bx => decide (y.1 ≠ ds)) (bs.take i)
        rw [List.length_take] at this
        exact ⟨_, rfl, _, hL, small1000 (by omega), same_mut sA hD, _, upd_same, (hB.snoc ⟨q1, rfl, hq⟩).kt (Kt.lst hL)⟩
      · rw [if_neg c, List.append_nil]
        exact ⟨sA, ys, hL, hB⟩
    · obtain ⟨sA, ys, hL, hB⟩ := hP
      rw [hb.1, List.take_of_length_le (Nat.le_refl _)] at hB
      exact k _ D ys sA hD hL hB
theorem ok_hiding_of (T : Txt K mg) : FnOk P w K mg base CX0 11 T.a_hiding_of T.d_hiding_of ["boxes", "number", "sort", "rounds", "hear"] (sp_hiding_of K T.HC) := by
  refine T.F_hiding_of.ok sc_hiding_of (fun vs H Q E h => ?_) (fun cdv A outer s H vs Q E hr h => ?_)
  · obtain ⟨p, xs, bs, ds, b, n, hh, rfl, _⟩ := h
    rfl
  · obtain ⟨p, xs, bs, ds, b, n, hh, rfl, hS, hb, G, R, k⟩ := h
    refine ⟨_, (C8.pss_cut (ps_if (pt_cmpR op_eq (pv 2) (ClX.pe_cval (pe_glob (v := V.ref T.W) rfl T.gW rfl)) (nomark _))
        (pss_one (ps_set (i := 5) sc_hiding_of.nd rfl (Or.inl rfl) (pe_call (ok_pulls_on_plain T) (hr.mono (by decide)) (by rfl) T.g_pulls_on_plain T.F_pulls_on_plain.kp T.b_pulls_on_plain .nil pass0 (pa_cons (pe_callN (ok_spoil_table T) (hr.mono (by decide)) (by rfl) T.g_spoil_table T.F_spoil_table.kp T.kb_spoil_table pass0 (pa_cons (pv 1) (pa_cons (pv 0) pa_nil)) (pk_cons (pv 3) pk_nil)) (pa_cons (pv 1) (pa_cons (pv 3) (pa_cons (pv 4) pa_nil)))))))
        (pss_one (ps_set (i := 5) sc_hiding_of.nd rfl (Or.inl rfl) (pe_call (ok_pulls_on_shy T) (hr.mono (by decide)) (by rfl) T.g_pulls_on_shy T.F_pulls_on_shy.kp T.b_pulls_on_shy .nil pass0 (pa_cons (pv 0) (pa_cons (pv 1) (pa_cons (pv 3) (pa_cons (pv 4) pa_nil))))))))
      (pss_one (ps_ret (pe_ifExp (pt_cmpR op_isN (pv 5) pe_non (nomark _)) pe_non (pe_make T.mk_hinit (ok_hinit T) (hr.mono (by decide)) (by rfl) T.gHC T.b_hinit .nil pass0 (pa_cons (pv 1) (pa_cons (pv 2) (pa_cons (pv 5) pa_nil)))))))), ?_⟩
    refine ⟨fun σ A => ∃ v5, σ = [some (.ref p), some (.str (numS ds)), some (.str (srt b)), some (.int (n : Nat)), some (.int hh), some v5] ∧ Same H A ∧ PulO K A v5 (hidO ds b n hh bs) ∧ PulN (hidO ds b n hh bs), ?_, ?_⟩
    · refine ⟨_, rfl, T.W, T.mc, _, _, rfl, T.rd, T.vP, rfl, _, rfl, ?_⟩
      rw [srt_plain]
      cases b with
      | false =>
        refine iteT ?_
        refine ⟨_, rfl, _, rfl, _, rfl, rfl, rfl, ds, p, xs, bs, n, rfl, G.N, hS, hb, G.len, G.num, G.nd, G.ne, R.n1, R.n8, fun H1 t ys rs s1 f1 ht hR hnew hT => ?_⟩
        refine ⟨_, rfl, _, rfl, _, rfl, t, ys, rs, ds, n, hh, rfl, G.N, SqT.of ht, hR, G.rows R.n1 R.n8 hT, R, fun H2 v s2 hv => ?_⟩
        rw [tab_eq hT] at hv
        exact ⟨v, rfl, s1.trans s2, hv, fun l e => by rw [hidO, if_neg (by decide), ← tab_eq hT] at e; exact plain_len (G.rows R.n1 R.n8 hT) R.h1 R.hn (by have := R.n8; omega) e⟩
      | true =>
        refine iteF ?_
        exact ⟨_, rfl, _, rfl, _, rfl, _, rfl, p, xs, bs, ds, n, hh, rfl, hS, hb, G, R, fun H2 v s2 hv => ⟨v, rfl, s2, hv, fun l e => shy_len R.n8 e⟩⟩
    · rintro σ A ⟨v5, rfl, sA, hv, hN⟩
      cases ho : hidO ds b n hh bs with
      | none =>
        rw [ho] at hv
        have hv : v5 = .non := hv
        subst hv
        refine ⟨_, rfl, rfl, _, rfl, iteT ?_⟩
        refine k _ _ sA ?_ hN
        rw [ho]
        exact rfl
      | some l =>
        rw [ho] at hv
        obtain ⟨t, ys, rfl, ht, hp⟩ := hv
        refine ⟨_, rfl, rfl, _, rfl, iteF ?_⟩
        refine ⟨_, rfl, _, rfl, _, rfl, fun x2 dy hx hdy ne => ?_⟩
        refine ⟨x2, dy, _, _, _, rfl, upd_same, fun H' fs off hx2 l1 l2 l3 => ⟨rfl, ?_⟩⟩
        have sz := made_off hx hdy ne off
        refine k _ _ (sA.trans sz) ?_ hN
        rw [ho]
        exact ⟨x2, t, ys, rfl, ⟨⟨dy, fs, hx2, l1, l2, l3⟩⟩, sameT sz ht, hp.k sz⟩
theorem ok_hidden (T : Txt K mg) : FnOk P w K mg base CX0 12 T.a_hidden T.d_hidden ["boxes", "number", "sort", "rounds", "hear"] (sp_hidden K T.HC) := by
  refine T.F_hidden.ok sc_hidden (fun vs H Q E h => ?_) (fun cdv A outer s H vs Q E hr h => ?_)
  · obtain ⟨p, xs, bs, ds, b, n, hh, rfl, _⟩ := h
    rfl
  · obtain ⟨p, xs, bs, ds, b, n, hh, rfl, hS, hb, G, R, k⟩ := h
    refine ⟨_, (pss_cons (ps_expr (pe_call (ok_check_called T) (hr.mono (by decide)) (by rfl) T.g_check_called T.F_check_called.kp T.b_check_called .nil pass0 (pa_cons (pv 1) pa_nil)))
      (pss_cons (ps_expr (pe_call (ok_check_sort T) (hr.mono (by decide)) (by rfl) T.g_check_sort T.F_check_sort.kp T.b_check_sort .nil pass0 (pa_cons (pv 2) pa_nil)))
      (pss_cons (ps_expr (pe_call (ok_check_others T) (hr.mono (by decide)) (by rfl) T.g_check_others T.F_check_others.kp T.b_check_others .nil pass0 (pa_cons (pv 0) (pa_cons (pv 1) pa_nil))))
      (pss_cons (ps_expr (pe_call (ok_check_rounds T) (hr.mono (by decide)) (by rfl) T.g_check_rounds T.F_check_rounds.kp T.b_check_rounds .nil pass0 (pa_cons (pv 3) pa_nil)))
      (pss_cons (ps_expr (pe_call (ok_check_hear T) (hr.mono (by decide)) (by rfl) T.g_check_hear T.F_check_hear.kp T.b_check_hear .nil pass0 (pa_cons (pv 4) (pa_cons (pv 3) pa_nil))))
      (pss_one (ps_ret (pe_call (ok_hiding_of T) (hr.mono (by decide)) (by rfl) T.g_hiding_of T.F_hiding_of.kp T.b_hiding_of .nil pass0 (pa_cons (pv 0) (pa_cons (pv 1) (pa_cons (pv 2) (pa_cons (pv 3) (pa_cons (pv 4) pa_nil))))))))))))), ?_⟩
    refine ⟨_, rfl, ds, rfl, G.N, fun H1 s1 => ?_⟩
    refine ⟨_, rfl, b, rfl, fun H2 s2 => ?_⟩
    have s12 := s1.trans s2
    refine ⟨_, rfl, _, rfl, p, xs, bs, ds, rfl, Hf.keepL s12 hS, hb.k s12, G.len, G.num, G.nd, G.ne, fun H3 s3 => ?_⟩
    have s13 := s12.trans s3
    refine ⟨_, rfl, n, rfl, R.n1, R.n8, ?_⟩
    refine ⟨_, rfl, _, rfl, hh, n, rfl, R.h1, R.h2, R.hn, ?_⟩
    exact ⟨_, rfl, _, rfl, _, rfl, _, rfl, _, rfl, p, xs, bs, ds, b, n, hh, rfl, Hf.keepL s13 hS, hb.k s13, G, R, fun H4 v s4 hv hN => k _ _ (s13.trans s4) hv hN⟩
theorem len_at {C : Addr} {H : Hp} {p t : Addr} {ds : List Nat} {b : Bool} {ys : List V} (hi : HidI C H p ds b t) (ht : SqT K H t ys) : hitAt K C p t ys H := by
  obtain ⟨dx, fs, a, _, _, l⟩ := hi.at'
  exact ⟨dx, fs, a, l, ht⟩
theorem ok_is_hidden_by (T : Txt K mg) : FnOk P w K mg base CX0 12 T.a_is_hidden_by T.d_is_hidden_by ["box", "number", "sort", "rounds", "hear"] (sp_is_hidden_by K) := by
  refine T.F_is_hidden_by.ok sc_is_hidden_by (fun vs H Q E h => ?_) (fun cdv A outer s H vs Q E hr h => ?_)
  · obtain ⟨v, x, ds, b, n, hh, rfl, _⟩ := h
    rfl
  · obtain ⟨v, x, ds, b, n, hh, rfl, hv, G, R, k⟩ := h
    refine ⟨_, (pss_cons (ps_set (i := 5) sc_is_hidden_by.nd rfl (Or.inl rfl) (pe_call (ok_hiding_of T) (hr.mono (by decide)) (by rfl) T.g_hiding_of T.F_hiding_of.kp T.b_hiding_of .nil pass0 (pa_cons (pe_lst (pa_cons (pv 0) pa_nil)) (pa_cons (pv 1) (pa_cons (pv 2) (pa_cons (pv 3) (pa_cons (pv 4) pa_nil)))))))
      (pss_one (ps_ret (pe_and (pe_cmpR op_notN (pv 5) pe_non (nomark _)) (pe_one (pe_cmpR op_eq (pe_callB (Ow.call_len (E := E0) T.aHLen T.iHLen ((ok_hlen T).raw T.b_hlen .nil) (hr.mono (by decide)) pass0) (by rfl) T.z_len (by decide +kernel) (pa_cons (pv 5) pa_nil)) pe_int (nomark _))))))), ?_⟩
    refine ⟨_, rfl, by show 1 ≤ sizeLine; decide, fun f hf => ?_⟩
    have sf := same_new (o := .lst [v]) hf
    have hf1 := upd_same (H := H) (a := f) (o := .lst [v])
    have hx : BxsAt K (upd H f (.lst [v])) [v] [x] := ⟨rfl, fun i w hw => by
      match i, hw with
      | 0, hw =>
        rw [← Option.some.inj hw]
        obtain ⟨q, e, hq⟩ := hv
        exact ⟨x, rfl, q, e, sameT sf hq⟩
      | i + 1, hw => cases hw⟩
    generalize upd H f (.lst [v]) = H1 at *
    refine ⟨_, rfl, _, rfl, _, rfl, _, rfl, f, [v], [x], ds, b, n, hh, rfl, SqL.of hf1, hx, G, R, fun H2 w s2 hw hN => ?_⟩
    have s12 := sf.trans s2
    have k := k _ s12
    unfold oneH at k
    cases ho : hidO ds b n hh [x] with
    | none =>
      rw [ho] at hw k
      have hw : w = .non := hw
      subst hw
      exact ⟨_, rfl, rfl, _, rfl, iteF k⟩
    | some l =>
      rw [ho] at hw k
      obtain ⟨p, t, ys, rfl, hi, ht, hp⟩ := hw
      refine ⟨_, rfl, rfl, _, rfl, iteT ?_⟩
      obtain ⟨dx, fs, hpa, _⟩ := id hi.at'
      have nl := hN l ho
      have el := hp.1
      refine ⟨_, rfl, p, dx, fs, rfl, hpa, p, t, ys, rfl, len_at hi ht, _, rfl, by omega, by omega, rfl, ?_⟩
      have e : decide (V.int ((ys.length : Nat) : Int) = V.int 1) = decide ((some l).map List.length = some 1) := by
        rw [el]
        by_cases c : l.length = 1
        · rw [decide_eq_true (by rw [c]; rfl), decide_eq_true (by show some l.length = some 1; rw [c])]
        · rw [decide_eq_false fun z => c (by have := V.int.inj z; omega), show decide ((some l).map List.length = some 1) = false from decide_eq_false fun z => c (Option.some.inj z)]
      rw [e]
      exact k
end
end K47

namespace K47
open PySem L2 Wm TL Dv
section
variable {P : Program} {w : World} {K : PySem.W.Frag} {mg : Str → Option Value} {base : Heap}
theorem filt_lt {α : Type} (f : α → Bool) {x : α} (hx : f x = false) : ∀ {l : List α}, x ∈ l → (l.filter f).length + 1 ≤ l.length
  | y :: l, m => by
    rcases List.mem_cons.mp m with e | m
    · subst e
      rw [List.filter_cons, hx]
      have := List.length_filter_le f l
      simp
      exact this
    · have ih := filt_lt f hx m
      rw [List.filter_cons]
      split
      · rw [List.length_cons, List.length_cons]; omega
      · rw [List.length_cons]; omega
theorem Page.oth {bs : List Bx} (G : Page bs) {x : Bx} (m : x ∈ bs) : Good x.1 (othL bs x.1) where
  N := G.num x m
  len := by
    have := filt_lt (fun y : Bx => decide (y.1 ≠ x.1)) (by simp) m
    have := G.l2
    unfold othL
    omega
  num := fun y my => G.num y (List.mem_filter.mp my).1
  nd := by
    have s : (othL bs x.1).Sublist bs := List.filter_sublist
    exact List.Pairwise.sublist (s.map _) G.nd
  ne := fun y my => of_decide_eq_true (List.mem_filter.mp my).2
theorem Good.one {ds : List Nat} {bs : List Bx} (G : Good ds bs) {y : Bx} (m : y ∈ bs) : Good ds [y] where
  N := G.N
  len := by show 1 ≤ 29; decide
  num := fun z mz => by rw [List.mem_singleton.mp mz]; exact G.num y m
  nd := by simp
  ne := fun z mz => by rw [List.mem_singleton.mp mz]; exact G.ne y m
theorem WrAt.kt {H H' : Hp} {v : V} {r : Wr} (h : WrAt K H v r) (s : Kt K H H') : WrAt K H' v r := by
  obtain ⟨q, u, e, a, b⟩ := h
  exact ⟨q, u, e, s _ _ a, s _ _ b⟩
theorem WrsAt.kt {H H' : Hp} {xs : List V} {rs : List Wr} (h : WrsAt K H xs rs) (s : Kt K H H') : WrsAt K H' xs rs := ⟨h.1, fun i v hv => by
  obtain ⟨r, a, b⟩ := h.2 i v hv
  exact ⟨r, a, b.kt s⟩⟩
theorem WrsAt.snoc {H : Hp} {xs : List V} {rs : List Wr} {v : V} {x : Wr} (h : WrsAt K H xs rs) (hx : WrAt K H v x) : WrsAt K H (xs ++ [v]) (rs ++ [x]) := ⟨by rw [List.length_append, List.length_append, h.1]; rfl, fun i w hv => by
  by_cases c : i < xs.length
  · rw [List.getElem?_append_left c] at hv
    obtain ⟨y, hy, e⟩ := h.2 i w hv
    exact ⟨y, by rw [List.getElem?_append_left (by have := h.1; omega)]; exact hy, e⟩
  · have il := (List.getElem?_eq_some_iff.mp hv).1
    rw [List.length_append] at il
    have : i = xs.length := by simp at il; omega
    subst this
    rw [List.getElem?_append_right (Nat.le_refl _), Nat.sub_self] at hv
    refine ⟨x, by rw [h.1, List.getElem?_append_right (Nat.le_refl _), Nat.sub_self]; rfl, ?_⟩
    rw [← Option.some.inj hv]
    exact hx⟩
theorem ok_who_hides (T : Txt K mg) : FnOk P w K mg base CX0 13 T.a_who_hides T.d_who_hides ["boxes", "rounds", "hear"] (sp_who_hides K) := by
  refine T.F_who_hides.ok sc_who_hides (fun vs H Q E h => ?_) (fun cdv A outer s H vs Q E hr h => ?_)
  · obtain ⟨p, t, xs, bs, n, hh, rfl, _⟩ := h
    rfl
  · obtain ⟨p, t, xs, bs, n, hh, rfl, hS, hb, G, R, k⟩ := h
    have g2 := G.l2
    refine ⟨_, (pss_cons (ps_expr (pe_call (ok_check_page T) (hr.mono (by decide)) (by rfl) T.g_check_page T.F_check_page.kp T.b_check_page .nil pass0 (pa_cons (pv 0) (pa_cons (pv 1) (pa_cons (pv 2) pa_nil)))))
      (pss_cons (ps_set (i := 3) sc_who_hides.nd rfl (Or.inl rfl) (pe_lst pa_nil))
      (pss_cons (ps_for (passes_of rfl) rfl (Kd.pi_seq (pv 0)) (pg_tup rfl (pgs_cons (pg_name (i := 4) sc_who_hides.nd rfl (Or.inr rfl)) (pgs_cons (pg_name (i := 5) sc_who_hides.nd rfl (Or.inr rfl)) pgs_nil)))
        (pss_cons (ps_set (i := 6) sc_who_hides.nd rfl (Or.inl rfl) (pe_call (ok_others_of T) (hr.mono (by decide)) (by rfl) T.g_others_of T.F_others_of.kp T.b_others_of .nil pass0 (pa_cons (pv 0) (pa_cons (pv 4) pa_nil))))
        (pss_cons (ps_set (i := 7) sc_who_hides.nd rfl (Or.inl rfl) (pe_call (ok_hiding_of T) (hr.mono (by decide)) (by rfl) T.g_hiding_of T.F_hiding_of.kp T.b_hiding_of .nil pass0 (pa_cons (pv 6) (pa_cons (pv 4) (pa_cons (pv 5) (pa_cons (pv 1) (pa_cons (pv 2) pa_nil)))))))
        (pss_cons (ps_setLc (i := 8) (own := [("box", 9)]) (g := gName 9) rfl sc_who_hides.nd rfl rfl (sw_true rfl rfl rfl (by decide +kernel)) (pi_list (pv 6)) (blkOk_by (own := [("box", 9)]) (N := nm_who_hides) (sc := (defScope s_who_hides)) (by decide +kernel)) (fun _ _ _ _ _ => pg_name (i := 9) sc_who_hides.nd rfl (Or.inl rfl)) (fun _ _ _ _ _ => (pts_one (pt_val (pe_call (ok_is_hidden_by T) (hr.mono (by decide)) (by rfl) T.g_is_hidden_by T.F_is_hidden_by.kp T.b_is_hidden_by .nil pass0 (pa_cons (pv 9) (pa_cons (pv 4) (pa_cons (pv 5) (pa_cons (pv 1) (pa_cons (pv 2) pa_nil))))))))) (fun _ _ _ _ _ => (pe_ix (show IxR _ (rIxT K) from ix_tup) (pv 9) pe_int (fun _ _ => rfl))))
        (pss_one (ps_expr (pe_bm PySem.F.plainAttrs_list PySem.F.slot_list_append PySem.F.type_list_append mt_append (pv 3) (pa_cons (pe_tup (pa_cons (pv 4) (pa_cons (pv 5) (pa_cons (pe_ifExp (pt_cmpR op_isN (pv 7) pe_non (nomark _)) pe_non (pe_callB (Ow.call_len (E := E0) T.aHLen T.iHLen ((ok_hlen T).raw T.b_hlen .nil) (hr.mono (by decide)) pass0) (by rfl) T.z_len (by decide +kernel) (pa_cons (pv 7) pa_nil))) (pa_cons (pe_callTy call_tuple_of (by rfl) T.z_tuple (by decide +kernel) (pa_cons (pv 8) pa_nil)) pa_nil))))) pa_nil))))))))
      (pss_one (ps_ret (pe_callTy call_tuple_of (by rfl) T.z_tuple (by decide +kernel) (pa_cons (pv 3) pa_nil))))))), ?_⟩
    refine ⟨_, rfl, _, rfl, _, rfl, p, t, xs, bs, n, hh, rfl, hS, hb, G, R, fun H1 s1 => ?_⟩
    have hS1 := hS.keep s1
    have hb1 := hb.k s1
    refine ⟨Nat.zero_le _, fun D hD => ?_⟩
    refine ⟨_, rfl, p, xs, t, rfl, hS1.keep (same_new hD), fun J Gw wk hG => ?_⟩
    refine for_it wk (fun i σ A => ∃ (v4 v5 v6 v7 v8 : Option V) (ws : List V), σ = [some (.ref p), some (.int (n : Nat)), some (.int hh), some (.ref D), v4, v5, v6, v7, v8, none] ∧ Same H1 A ∧ A D = some (.lst ws) ∧ WrsAt K A ws ((bs.take i).map (wrD n hh bs)) ∧ ∀ x ∈ bs.take i, PulN (hidO x.1 x.2 n hh (othL bs x.1)))
      ⟨none, none, none, none, none, [], rfl, same_new hD, upd_same, ⟨rfl, fun i v hv => by cases hv⟩, fun x m => by simp at m⟩ (fun i σ A _ hP => ?_) (fun i v σ A A' hi hP hY => ?_) (fun σ A hP => ?_)
    · obtain ⟨_, _, _, _, _, _, _, sA, _⟩ := hP
      exact hG _ (hS1.keep sA)
    · obtain ⟨v4, v5, v6, v7, v8, ws, rfl, sA, hD1, hW, hN⟩ := hP
      obtain ⟨rfl, hv⟩ := hY
      obtain ⟨x, hbi, q1, rfl, hq⟩ := hb1.2 i v hv
      have mx := List.mem_of_getElem? hbi
      have GO := G.oth mx
      have hq := sameT sA hq
      refine ⟨q1, _, rfl, hq, rfl, _, _, rfl, _, _, rfl, rfl, ?_⟩
      refine ⟨_, rfl, _, rfl, p, t, xs, bs, x.1, rfl, hS1.keep sA, hb1.k sA, g2, fun A1 o ys s3 fo ho hB => ?_⟩
      refine ⟨_, rfl, _, rfl, _, rfl, _, rfl, _, rfl, o, ys, othL bs x.1, x.1, x.2, n, hh, rfl, SqL.of ho, hB, GO, R, fun A2 w s4 hw hN2 => ?_⟩
      have ho2 := s4 _ _ ho
      have hB2 := hB.k s4
      refine ⟨_, rfl, o, rfl, ⟨_, SqL.of ho2⟩, fun D2 hD2 => ?_⟩
      refine lc_it walk_list (fun j B => Same A2 B ∧ B D2 = some (.lst ((((othL bs x.1).take j).filter (oneH x.1 x.2 n hh)).map fun y => V.str (numS y.1)))) ⟨same_new hD2, upd_same⟩ (fun j B _ h => SqL.of (h.1 _ _ ho2)) (fun j v B B' hj hP hY => ?_) (fun B hP => ?_)
      · obtain ⟨sB, hL⟩ := hP
        obtain ⟨rfl, hv⟩ := hY
        obtain ⟨y, hby, q2, rfl, hq2⟩ := hB2.2 j v hv
        have my := List.mem_of_getElem? hby
        have hq2 := sameT sB hq2
        refine ⟨rfl, ?_⟩
        refine ⟨_, rfl, _, rfl, _, rfl, _, rfl, _, rfl, .ref q2, y, x.1, x.2, n, hh, rfl, ⟨q2, rfl, hq2⟩, GO.one my, R, fun B2 s5 => ?_⟩
        rw [filb_succ _ hby]
        refine ⟨_, rfl, ite2 (fun c => ?_) (fun c => ?_)⟩
        · rw [if_pos c]
          have fl := List.length_filter_le (oneH x.1 x.2 n hh) ((othL bs x.1).take j)
          have gl := GO.len
          rw [List.length_take] at fl
          have sB2 := sB.trans s5
          refine ⟨_, rfl, q2, _, 0, _, rfl, rfl, sameT s5 hq2, atI_nat (j := 0) rfl, _, s5 _ _ hL, by rw [List.length_map]; exact small1000 (by omega), same_mut sB2 hD2, ?_⟩
          rw [upd_same, List.map_append]
          rfl
        · rw [if_neg c, List.append_nil]
          exact ⟨sB.trans s5, s5 _ _ hL⟩
      obtain ⟨sB, hL⟩ := hP
      rw [hB2.1, List.take_of_length_le (Nat.le_refl _)] at hL
      have sA2 := (s3.trans s4).trans sB
      have hL : B D2 = some (.lst ((wrD n hh bs x).al.map V.str)) := by
        show B D2 = some (.lst ((((othL bs x.1).filter (oneH x.1 x.2 n hh)).map fun y => numS y.1).map V.str))
        rw [List.map_map]
        exact hL
      have hw := hw.k sB
      refine ⟨_, rfl, .inl ⟨rfl, _, SqL.of (sA2 _ _ hD1)⟩, _, rfl, _, rfl, _, rfl, rfl, _, rfl, ?_⟩
      cases ho7 : hidO x.1 x.2 n hh (othL bs x.1) with
      | none =>
        rw [ho7] at hw
        have hw : w = .non := hw
        subst hw
        refine iteT ⟨_, rfl, D2, _, rfl, .inl ⟨SqL.of hL, fun t5 ht5 => ?_⟩⟩
        have s5 := same_new (o := .tup ((wrD n hh bs x).al.map V.str)) ht5
        refine ⟨by show 4 ≤ sizeLine; decide, fun t6 ht6 => ?_⟩
        have s6 := same_new (o := .tup [.str (numS x.1), .str (srt x.2), .non, .ref t5]) ht6
        have y5 := SqT.of (K := K) (s6 _ _ (upd_same (H := B) (a := t5) (o := .tup ((wrD n hh bs x).al.map V.str))))
        have y6 := SqT.of (K := K) (upd_same (H := upd B t5 (.tup ((wrD n hh bs x).al.map V.str))) (a := t6) (o := .tup [.str (numS x.1), .str (srt x.2), .non, .ref t5]))
        have sAll := (sA2.trans s5).trans s6
        have hDz := sAll _ _ hD1
        have wl := hW.1
        rw [List.length_map, List.length_take] at wl
        refine ⟨D, _, _, rfl, rfl, hDz, small1000 (by omega), ?_⟩
        have hW2 := (hW.k sAll).snoc (v := .ref t6) (x := wrD n hh bs x) ⟨t6, t5, rfl, by rw [show (wrD n hh bs x).c = lenO (hidO x.1 x.2 n hh (othL bs x.1)) from rfl, ho7]; exact y6, y5⟩
        refine ⟨_, _, _, _, _, ws ++ [.ref t6], rfl, same_mut (sA.trans sAll) hD, upd_same, ?_, fun z mz => ?_⟩
        · rw [tk_succ hbi, List.map_append]
          exact hW2.kt (Kt.lst hDz)
        · rw [tk_succ hbi] at mz
          rcases List.mem_append.mp mz with mz | mz
          · exact hN z mz
          · rw [List.mem_singleton.mp mz]; exact hN2
      | some l =>
        have nl := hN2 l ho7
        rw [ho7] at hw
        obtain ⟨p7, t7, ys7, rfl, hi7, ht7, hp7⟩ := hw
        obtain ⟨dx7, fs7, hpa7, _⟩ := id hi7.at'
        have el7 := hp7.1
        refine iteF ⟨_, rfl, p7, dx7, fs7, rfl, hpa7, p7, t7, ys7, rfl, len_at hi7 ht7, _, rfl, by omega, by omega, ?_⟩
        rw [el7]
        refine ⟨_, rfl, D2, _, rfl, .inl ⟨SqL.of hL, fun t5 ht5 => ?_⟩⟩
        have s5 := same_new (o := .tup ((wrD n hh bs x).al.map V.str)) ht5
        refine ⟨by show 4 ≤ sizeLine; decide, fun t6 ht6 => ?_⟩
        have s6 := same_new (o := .tup [.str (numS x.1), .str (srt x.2), .int ((l.length : Nat) : Int), .ref t5]) ht6
        have y5 := SqT.of (K := K) (s6 _ _ (upd_same (H := B) (a := t5) (o := .tup ((wrD n hh bs x).al.map V.str))))
        have y6 := SqT.of (K := K) (upd_same (H := upd B t5 (.tup ((wrD n hh bs x).al.map V.str))) (a := t6) (o := .tup [.str (numS x.1), .str (srt x.2), .int ((l.length : Nat) : Int), .ref t5]))
        have sAll := (sA2.trans s5).trans s6
        have hDz := sAll _ _ hD1
        have wl := hW.1
        rw [List.length_map, List.length_take] at wl
        refine ⟨D, _, _, rfl, rfl, hDz, small1000 (by omega), ?_⟩
        have hW2 := (hW.k sAll).snoc (v := .ref t6) (x := wrD n hh bs x) ⟨t6, t5, rfl, by rw [show (wrD n hh bs x).c = lenO (hidO x.1 x.2 n hh (othL bs x.1)) from rfl, ho7]; exact y6, y5⟩
        refine ⟨_, _, _, _, _, ws ++ [.ref t6], rfl, same_mut (sA.trans sAll) hD, upd_same, ?_, fun z mz => ?_⟩
        · rw [tk_succ hbi, List.map_append]
          exact hW2.kt (Kt.lst hDz)
        · rw [tk_succ hbi] at mz
          rcases List.mem_append.mp mz with mz | mz
          · exact hN z mz
          · rw [List.mem_singleton.mp mz]; exact hN2
    · obtain ⟨v4, v5, v6, v7, v8, ws, rfl, sA, hD1, hW, hN⟩ := hP
      rw [hb1.1, List.take_of_length_le (Nat.le_refl _)] at hW hN
      refine ⟨_, rfl, D, _, rfl, .inl ⟨SqL.of hD1, fun u hu => ?_⟩⟩
      have su := same_new (o := .tup ws) hu
      have sz := s1.trans sA
      exact k _ u ws (sz.trans su) (sz.free hu) upd_same (hW.k su) hN
end
end K47

namespace K47
open PySem L2 Wm TL Dv
section
variable {P : Program} {w : World} {K : PySem.W.Frag} {mg : Str → Option Value} {base : Heap}
theorem find_first {α : Type} {f : α → Bool} : ∀ {l : List α} {i : Nat} {x : α}, (∀ y ∈ l.take i, f y = false) → l[i]? = some x → f x = true → l.find? f = some x
  | [], i, x, _, h, _ => by simp at h
  | y :: l, 0, x, _, h, hf => by
    have e : y = x := by simpa using h
    subst e
    rw [List.find?_cons, hf]
  | y :: l, i + 1, x, ha, h, hf => by
    rw [List.find?_cons, ha y (by simp)]
    exact find_first (i := i) (fun z m => ha z (by rw [List.take_succ_cons]; exact List.mem_cons_of_mem _ m)) (by simpa using h) hf
theorem ok_first_hidden (T : Txt K mg) : FnOk P w K mg base CX0 12 T.a_first_hidden T.d_first_hidden ["boxes", "rounds", "hear", "most"] (sp_first_hidden K T.HC) := by
  refine T.F_first_hidden.ok sc_first_hidden (fun vs H Q E h => ?_) (fun cdv A outer s H vs Q E hr h => ?_)
  · obtain ⟨p, t, xs, bs, n, hh, m, rfl, _⟩ := h
    rfl
  · obtain ⟨p, t, xs, bs, n, hh, m, rfl, hS, hb, G, R, m0, k⟩ := h
    have g2 := G.l2
    refine ⟨_, (pss_cons (ps_expr (pe_call (ok_check_page T) (hr.mono (by decide)) (by rfl) T.g_check_page T.F_check_page.kp T.b_check_page .nil pass0 (pa_cons (pv 0) (pa_cons (pv 1) (pa_cons (pv 2) pa_nil)))))
      (pss_cons (ps_if (PW.pt (pw_or (pt_not (pt_val (pe_call (ok_is_whole T) (hr.mono (by decide)) (by rfl) T.g_is_whole T.F_is_whole.kp T.b_is_whole .nil pass0 (pa_cons (pv 3) pa_nil)))) (pw_or1 (pt_cmpR op_lt (pv 3) pe_int (nomark _)))))
        (pss_one ps_never)
        pss_nil)
      (pss_cons (ps_for (passes_of rfl) rfl (Kd.pi_seq (pv 0)) (pg_tup rfl (pgs_cons (pg_name (i := 4) sc_first_hidden.nd rfl (Or.inl rfl)) (pgs_cons (pg_name (i := 5) sc_first_hidden.nd rfl (Or.inl rfl)) pgs_nil)))
        (pss_cons (ps_set (i := 6) sc_first_hidden.nd rfl (Or.inl rfl) (pe_call (ok_hiding_of T) (hr.mono (by decide)) (by rfl) T.g_hiding_of T.F_hiding_of.kp T.b_hiding_of .nil pass0 (pa_cons (pe_call (ok_others_of T) (hr.mono (by decide)) (by rfl) T.g_others_of T.F_others_of.kp T.b_others_of .nil pass0 (pa_cons (pv 0) (pa_cons (pv 4) pa_nil))) (pa_cons (pv 4) (pa_cons (pv 5) (pa_cons (pv 1) (pa_cons (pv 2) pa_nil)))))))
        (pss_one (ps_if (PW.pt (pw_and (pt_cmpR op_notN (pv 6) pe_non (nomark _)) (pw_and1 (pt_cmpR op_le (pe_callB (Ow.call_len (E := E0) T.aHLen T.iHLen ((ok_hlen T).raw T.b_hlen .nil) (hr.mono (by decide)) pass0) (by rfl) T.z_len (by decide +kernel) (pa_cons (pv 6) pa_nil)) (pv 3) (nomark _)))))
          (pss_one (ps_ret (pv 6)))
          pss_nil))))
      (pss_one (ps_ret pe_non))))), ?_⟩
    refine ⟨_, rfl, _, rfl, _, rfl, p, t, xs, bs, n, hh, rfl, hS, hb, G, R, fun H1 s1 => ?_⟩
    have hS1 := hS.keep s1
    have hb1 := hb.k s1
    refine ⟨_, rfl, _, some m, rfl, .int m, true, rfl, iteF ?_⟩
    refine ⟨_, rfl, m, 0, rfl, rfl, _, rfl, iteN (decide_eq_false (by omega)) ?_⟩
    refine ⟨_, rfl, p, xs, t, rfl, hS1, fun J Gw wk hG => ?_⟩
    refine for_it wk (fun i σ A => ∃ (v4 v5 v6 : Option V), σ = [some (.ref p), some (.int (n : Nat)), some (.int hh), some (.int m), v4, v5, v6] ∧ Same H1 A ∧ ∀ x ∈ bs.take i, fitB n hh bs m x = false)
      ⟨none, none, none, rfl, Same.refl _, fun x m => by simp at m⟩ (fun i σ A _ hP => ?_) (fun i v σ A A' hi hP hY => ?_) (fun σ A hP => ?_)
    · obtain ⟨_, _, _, _, sA, _⟩ := hP
      exact hG _ (hS1.keep sA)
    · obtain ⟨v4, v5, v6, rfl, sA, hF⟩ := hP
      obtain ⟨rfl, hv⟩ := hY
      obtain ⟨x, hbi, q1, rfl, hq⟩ := hb1.2 i v hv
      have mx := List.mem_of_getElem? hbi
      have GO := G.oth mx
      have hq := sameT sA hq
      refine ⟨q1, _, rfl, hq, rfl, _, _, rfl, _, _, rfl, rfl, ?_⟩
      refine ⟨_, rfl, _, rfl, p, t, xs, bs, x.1, rfl, hS1.keep sA, hb1.k sA, g2, fun A1 o ys s3 fo ho hB => ?_⟩
      refine ⟨_, rfl, _, rfl, _, rfl, _, rfl, o, ys, othL bs x.1, x.1, x.2, n, hh, rfl, SqL.of ho, hB, GO, R, fun A2 w s4 hw hN2 => ?_⟩
      have sA2 := sA.trans (s3.trans s4)
      have nx : fitB n hh bs m x = false → ∃ (v4 v5 v6 : Option V), [some (V.ref p), some (.int (n : Nat)), some (.int hh), some (.int m), some (.str (numS x.1)), some (.str (srt x.2)), some w] = [some (.ref p), some (.int (n : Nat)), some (.int hh), some (.int m), v4, v5, v6] ∧ Same H1 A2 ∧ ∀ x ∈ bs.take (i + 1), fitB n hh bs m x = false := fun e => ⟨_, _, _, rfl, sA2, fun z mz => by
        rw [tk_succ hbi] at mz
        rcases List.mem_append.mp mz with mz | mz
        · exact hF z mz
        · rw [List.mem_singleton.mp mz]; exact e⟩
      cases ho7 : hidO x.1 x.2 n hh (othL bs x.1) with
      | none =>
        rw [ho7] at hw
        have hw : w = .non := hw
        subst hw
        exact ⟨_, rfl, rfl, _, rfl, iteF (nx (by unfold fitB lenO; rw [ho7]; rfl))⟩
      | some l =>
        have nl := hN2 l ho7
        have hw0 := hw
        rw [ho7] at hw
        obtain ⟨p7, t7, ys7, rfl, hi7, ht7, hp7⟩ := hw
        obtain ⟨dx7, fs7, hpa7, _⟩ := id hi7.at'
        have el7 := hp7.1
        have ef : fitB n hh bs m x = decide (((l.length : Nat) : Int) ≤ m) := by unfold fitB lenO; rw [ho7]; rfl
        refine ⟨_, rfl, rfl, _, rfl, iteT ?_⟩
        refine ⟨_, rfl, p7, dx7, fs7, rfl, hpa7, p7, t7, ys7, rfl, len_at hi7 ht7, _, rfl, by omega, by omega, ?_⟩
        rw [el7]
        refine ⟨_, rfl, _, _, rfl, rfl, _, rfl, ite2 (fun c => ?_) (fun c => ?_)⟩
        · have fx := find_first hF hbi (ef.trans c)
          refine ⟨_, rfl, k _ _ (s1.trans sA2) ?_ ?_⟩
          · rw [fx]
            exact hw0
          · intro z e
            rw [fx] at e
            rw [← Option.some.inj e]
            exact hN2
        · exact nx (by rw [ef]; exact Bool.eq_false_iff.mpr c)
    · obtain ⟨v4, v5, v6, rfl, sA, hF⟩ := hP
      rw [hb1.1, List.take_of_length_le (Nat.le_refl _)] at hF
      have fx : bs.find? (fitB n hh bs m) = none := List.find?_eq_none.mpr fun x mx => by rw [hF x mx]; decide
      refine k _ _ (s1.trans sA) ?_ ?_
      · rw [fx]
        exact rfl
      · intro z e
        rw [fx] at e
        cases e
theorem txt_len (r : Bool) (x : Str) (w : Nat) : (Fs.txt r x w).length ≤ x.length + w := by
  have l (a b : Nat) : (Builtin.Str.padded x a b 32).length = a + x.length + b := by
    show ((Array.replicate a 32 ++ x.cps ++ Array.replicate b 32).size) = _
    rw [Array.size_append, Array.size_append, Array.size_replicate, Array.size_replicate]
    rfl
  unfold Fs.txt Txt.ljust Txt.rjust
  cases r
  · rw [if_neg (by decide)]
    split
    · omega
    · rw [l]; omega
  · rw [if_pos rfl]
    split
    · omega
    · rw [l]; omega
theorem join_len {r : Wr} (L : Lin r) : (Txt.join "" (r.al.map fun a : Str => " " ++ a)).length ≤ 200 := by
  rw [join_eq]
  refine Nat.le_trans (StrLaws.join_length_le _ _) ?_
  rw [show ("" : Str).length = 0 from rfl, Nat.mul_zero, Nat.add_zero]
  have b : ∀ xs : List Str, (∀ a ∈ xs, a.length ≤ 4) → ((xs.map fun a : Str => " " ++ a).map (·.length)).sum ≤ 5 * xs.length := by
    intro xs
    induction xs with
    | nil => intro _; exact Nat.le_refl _
    | cons a xs ih =>
      intro h
      have i := ih fun z m => h z (List.mem_cons_of_mem _ m)
      have e := h a List.mem_cons_self
      rw [List.map_cons, List.map_cons, List.sum_cons, List.length_cons, PySem.Str.length_append]
      show 1 + a.length + _ ≤ _
      omega
  have := b r.al L.sh
  have := L.few
  omega
theorem join_fits {r : Wr} (L : Lin r) : ((r.al.map fun a : Str => " " ++ a).map (·.length)).sum + (r.al.map fun a : Str => " " ++ a).length * ("" : Str).length ≤ 16777216 := by
  rw [show ("" : Str).length = 0 from rfl, Nat.mul_zero, Nat.add_zero]
  have b : ∀ xs : List Str, (∀ a ∈ xs, a.length ≤ 4) → ((xs.map fun a : Str => " " ++ a).map (·.length)).sum ≤ 5 * xs.length := by
    intro xs
    induction xs with
    | nil => intro _; exact Nat.le_refl _
    | cons a xs ih =>
      intro h
      have i := ih fun z m => h z (List.mem_cons_of_mem _ m)
      have e := h a List.mem_cons_self
      rw [List.map_cons, List.map_cons, List.sum_cons, List.length_cons, PySem.Str.length_append]
      show 1 + a.length + _ ≤ _
      omega
  have := b r.al L.sh
  have := L.few
  omega
theorem num_len {ds : List Nat} (N : Num ds) : (numS ds).length ≤ 4 := by
  have := N.len
  show (ds.map _).toArray.size ≤ 4
  rw [List.size_toArray, List.length_map]
  exact this
theorem srt_len (b : Bool) : (srt b).length ≤ 5 := by cases b <;> decide
theorem lin_of {n : Nat} {h : Int} {bs : List Bx} {x : Bx} (G : Page bs) (m : x ∈ bs) (hN : PulN (hidO x.1 x.2 n h (othL bs x.1))) : Lin (wrD n h bs x) where
  N := G.num x m
  c := fun i e => by
    have e : lenO (hidO x.1 x.2 n h (othL bs x.1)) = some i := e
    cases ho : hidO x.1 x.2 n h (othL bs x.1) with
    | none => rw [ho] at e; cases e
    | some l =>
      rw [ho] at e
      have e : ((l.length : Nat) : Int) = i := Option.some.inj e
      have := hN l ho
      omega
  few := by
    have := (G.oth m).len
    have fl := List.length_filter_le (oneH x.1 x.2 n h) (othL bs x.1)
    show (((othL bs x.1).filter (oneH x.1 x.2 n h)).map fun y => numS y.1).length ≤ 30
    rw [List.length_map]
    omega
  sh := fun a ma => by
    obtain ⟨y, my, rfl⟩ := List.mem_map.mp ma
    exact num_len ((G.oth m).num y (List.mem_filter.mp my).1)
theorem log_small {i : Int} (h0 : 0 ≤ i) (h1 : i ≤ 1000) : i.natAbs.log2 < 1920 := by
  have : i.natAbs.log2 ≤ i.natAbs := Nat.log2_le_self _
  omega
theorem str_len {i : Int} (h0 : 0 ≤ i) (h1 : i ≤ 1000) : (cT (some i)).length ≤ 20 := by
  obtain ⟨k, rfl⟩ := Int.eq_ofNat_of_zero_le h0
  have e := congrArg List.length (tl_num k)
  have d := PySem.W.KXf.digits_le (a := (k : Int)) (by omega) (by have : (1000 : Int) < 10 ^ 10 := (by decide); omega)
  have e2 : (cT (some (k : Int))).length = (tl (Str.ofString (toString ((k : Nat) : Int)))).length := by
    show (Str.ofString (toString ((k : Nat) : Int))).cps.size = _
    rw [Array.length_toList]
  rw [e2, e]
  unfold numL
  rw [List.length_map]
  have d : (Nat.toDigits 10 k).length ≤ 10 := d
  omega
theorem cT_len {r : Wr} (L : Lin r) : (cT r.c).length ≤ 20 := by
  cases hc : r.c with
  | none => decide
  | some i =>
    have := L.c i hc
    exact str_len this.1 this.2
theorem ok_hiding_page (T : Txt K mg) : FnOk P w K mg base CX0 14 T.a_hiding_page T.d_hiding_page ["boxes", "rounds", "hear"] (sp_hiding_page K) := by
  refine T.F_hiding_page.ok sc_hiding_page (fun vs H Q E h => ?_) (fun cdv A outer s H vs Q E hr h => ?_)
  · obtain ⟨p, t, xs, bs, n, hh, rfl, _⟩ := h
    rfl
  · obtain ⟨p, t, xs, bs, n, hh, rfl, hS, hb, G, R, k⟩ := h
    have g2 := G.l2
    refine ⟨_, (pss_cons (ps_set (i := 3) sc_hiding_page.nd rfl (Or.inl rfl) (pe_lst pa_nil))
      (pss_cons (ps_for (passes_of rfl) rfl (pi_tup (pe_callN (ok_who_hides T) (hr.mono (by decide)) (by rfl) T.g_who_hides T.F_who_hides.kp T.kb2_who_hides pass0 (pa_cons (pv 0) pa_nil) (pk_cons (pv 1) (pk_cons (pv 2) pk_nil)))) (pg_tup rfl (pgs_cons (pg_name (i := 4) sc_hiding_page.nd rfl (Or.inl rfl)) (pgs_cons (pg_name (i := 5) sc_hiding_page.nd rfl (Or.inl rfl)) (pgs_cons (pg_name (i := 6) sc_hiding_page.nd rfl (Or.inl rfl)) (pgs_cons (pg_name (i := 7) sc_hiding_page.nd rfl (Or.inl rfl)) pgs_nil)))))
        (pss_cons (ps_set (i := 8) sc_hiding_page.nd rfl (Or.inl rfl) (pe_ifExp (pt_cmpR op_isN (pv 6) pe_non (nomark _)) pe_str (pe_callTy call_str_int (by rfl) T.z_str (by decide +kernel) (pa_cons (pv 6) pa_nil))))
        (pss_cons (ps_set (i := 9) sc_hiding_page.nd rfl (Or.inl rfl) (pe_join pe_str (pe_lc (own := [("other", 10)]) (g := gName 10) (tt := tYes) rfl sc_hiding_page.nd (pi_tup (pv 7)) (blkOk_by (own := [("other", 10)]) (N := nm_hiding_page) (sc := (defScope s_hiding_page)) (by decide +kernel)) (fun _ _ _ _ _ => pg_name (i := 10) sc_hiding_page.nd rfl (Or.inl rfl)) (fun _ _ _ _ _ => pts_nil) (fun _ _ _ _ _ => (pe_op op_add_str pe_str (pv 10))))))
        (pss_one (ps_expr (pe_bm PySem.F.plainAttrs_list PySem.F.slot_list_append PySem.F.type_list_append mt_append (pv 3) (pa_cons (pe_joined (PJ.cons (Fs.pe_fmtS (pv 4) (pe_joined1 pe_str)) (PJ.cons pe_str (PJ.cons (Fs.pe_fmtS (pv 5) (pe_joined1 pe_str)) (PJ.cons pe_str (PJ.cons (Fs.pe_fmtS (pv 8) (pe_joined1 pe_str)) (PJ.cons (pe_fmt (pv 9)) PJ.nil))))))) pa_nil)))))))
      (pss_one (ps_ret (pe_callTy call_tuple_of (by rfl) T.z_tuple (by decide +kernel) (pa_cons (pv 3) pa_nil)))))), ?_⟩
    refine ⟨Nat.zero_le _, fun D hD => ?_⟩
    have sD := same_new (o := .lst []) hD
    refine ⟨_, rfl, _, rfl, _, rfl, rfl, rfl, p, t, xs, bs, n, hh, rfl, hS.keep sD, hb.k sD, G, R, fun H2 tt ys s2 f2 ht hW hN => ⟨tt, rfl, ⟨_, SqT.of ht⟩, ?_⟩⟩
    have hD2 := s2 _ _ (upd_same (H := H) (a := D) (o := .lst []))
    refine for_tup (xs := ys) (fun i σ A => ∃ (v4 v5 v6 v7 v8 v9 : Option V), σ = [some (.ref p), some (.int (n : Nat)), some (.int hh), some (.ref D), v4, v5, v6, v7, v8, v9, none] ∧ Same H A ∧ Kt K H2 A ∧ A D = some (.lst (((bs.take i).map fun x => lineT (wrD n hh bs x)).map V.str)))
      ⟨none, none, none, none, none, none, rfl, sD.trans s2, Kt.same (Same.refl _), hD2⟩ (fun i σ A _ hP => ?_) (fun i y σ A hy hP => ?_) (fun σ A hP => ?_)
    · obtain ⟨_, _, _, _, _, _, _, _, kt, _⟩ := hP
      exact kt _ _ (SqT.of ht)
    · obtain ⟨v4, v5, v6, v7, v8, v9, rfl, sA, kt, hL⟩ := hP
      obtain ⟨r, hr, q, u, rfl, hq, hu⟩ := hW.2 i y hy
      rw [List.getElem?_map] at hr
      obtain ⟨x, hbi, er⟩ := Option.map_eq_some_iff.mp hr
      have mx := List.mem_of_getElem? hbi
      have L : Lin r := by rw [← er]; exact lin_of G mx (hN x mx)
      have hqA := kt _ _ hq
      have huA := kt _ _ hu
      refine ⟨q, _, rfl, hqA, rfl, _, _, rfl, _, _, rfl, _, _, rfl, _, _, rfl, rfl, ?_⟩
      have z0 : Str.empty.length = 0 := rfl
      have z1 : (Str.ofString " ").length = 1 := rfl
      have zz : 1000 ≤ sizeLine := by decide
      have b1 : (Fs.txt false (numS r.d) 4).length ≤ 8 := Nat.le_trans (txt_len _ _ _) (by have := num_len L.N; omega)
      have b2 : (Fs.txt false (srt r.b) 5).length ≤ 10 := Nat.le_trans (txt_len _ _ _) (by have := srt_len r.b; omega)
      have b3 : (Fs.txt true (cT r.c) 2).length ≤ 22 := Nat.le_trans (txt_len _ _ _) (by have := cT_len L; omega)
      have b4 := join_len L
      refine ⟨_, rfl, rfl, _, rfl, ?_⟩
      cases hc : r.c with
      | none =>
        refine iteT ?_
        refine ⟨⟨_, rfl⟩, _, rfl, u, rfl, ⟨_, huA⟩, fun D3 hD3 => ?_⟩
        refine Lm.lc_map (K := K) walk_tup (fun j y _ => (r.al.map fun a : Str => V.str (" " ++ a))[j]? = some y) (fun _ _ _ _ h _ => h) hD3 (by rw [List.length_map]; have := L.few; omega) (fun H' s => sameT s huA) (fun j v H' hj hv sm Q2 Z q => ?_) (fun A2 zs sB hz lz hR3 => ?_)
        · rw [List.getElem?_map] at hv
          obtain ⟨a, ha, rfl⟩ := Option.map_eq_some_iff.mp hv
          have la := L.sh a (List.mem_of_getElem? ha)
          refine ⟨rfl, yesT ?_⟩
          refine ⟨_, rfl, _, _, rfl, rfl, ?_, q _ _ (Same.refl _) ?_⟩
          · exact Nat.le_of_lt (small1000 (by show 1 + a.length ≤ 1000; omega))
          · rw [List.getElem?_map, ha]
            rfl
        have ez : zs = (r.al.map fun a : Str => " " ++ a).map V.str := by
          rw [List.map_map]
          exact Lm.list_is (by rw [lz, List.length_map, List.length_map]) hR3
        rw [ez] at hz
        refine ⟨_, D3, _, rfl, rfl, .inl (SqL.of hz), join_fits L, ?_⟩
        have kt2 := (kt.trans (Kt.same sB))
        have hLz := sB _ _ hL
        refine ⟨_, rfl, .inl ⟨rfl, _, SqL.of hLz⟩, ?_⟩
        refine ⟨_, rfl, numS r.d, "<4", false, 4, rfl, rfl, Fs.asks_l4, by omega, _, rfl, by simp only [PySem.Str.length_append, z0, z1]; omega, ?_⟩
        refine ⟨_, rfl, by simp only [PySem.Str.length_append, z0, z1]; omega, ?_⟩
        refine ⟨_, rfl, srt r.b, "<5", false, 5, rfl, rfl, Fs.asks_l5, by omega, _, rfl, by simp only [PySem.Str.length_append, z0, z1]; omega, ?_⟩
        refine ⟨_, rfl, by simp only [PySem.Str.length_append, z0, z1]; omega, ?_⟩
        refine ⟨_, rfl, cT r.c, ">2", true, 2, by rw [hc]; rfl, rfl, Fs.asks_r2, by omega, _, rfl, by simp only [PySem.Str.length_append, z0, z1]; omega, ?_⟩
        refine ⟨_, rfl, .inl ⟨_, rfl, by omega, _, rfl, by simp only [PySem.Str.length_append, z0, z1]; omega, ?_⟩⟩
        have ll : (bs.take i).length ≤ 30 := by rw [List.length_take]; omega
        refine ⟨D, _, _, rfl, rfl, hLz, by rw [List.length_map, List.length_map]; exact small1000 (by omega), ?_⟩
        refine ⟨_, _, _, _, _, _, rfl, same_mut (sA.trans sB) hD, kt2.trans (Kt.lst hLz), ?_⟩
        rw [upd_same, tk_succ hbi, List.map_append, List.map_append]
        show some (HO.lst (_ ++ [V.str (lineT r)])) = some (HO.lst (_ ++ [V.str (lineT (wrD n hh bs x))]))
        rw [er]
      | some c =>
        have hcb := L.c c hc
        refine iteF ⟨_, rfl, c, rfl, log_small hcb.1 hcb.2, ?_⟩
        refine ⟨⟨_, rfl⟩, _, rfl, u, rfl, ⟨_, huA⟩, fun D3 hD3 => ?_⟩
        refine Lm.lc_map (K := K) walk_tup (fun j y _ => (r.al.map fun a : Str => V.str (" " ++ a))[j]? = some y) (fun _ _ _ _ h _ => h) hD3 (by rw [List.length_map]; have := L.few; omega) (fun H' s => sameT s huA) (fun j v H' hj hv sm Q2 Z q => ?_) (fun A2 zs sB hz lz hR3 => ?_)
        · rw [List.getElem?_map] at hv
          obtain ⟨a, ha, rfl⟩ := Option.map_eq_some_iff.mp hv
          have la := L.sh a (List.mem_of_getElem? ha)
          refine ⟨rfl, yesT ?_⟩
          refine ⟨_, rfl, _, _, rfl, rfl, ?_, q _ _ (Same.refl _) ?_⟩
          · exact Nat.le_of_lt (small1000 (by show 1 + a.length ≤ 1000; omega))
          · rw [List.getElem?_map, ha]
            rfl
        have ez : zs = (r.al.map fun a : Str => " " ++ a).map V.str := by
          rw [List.map_map]
          exact Lm.list_is (by rw [lz, List.length_map, List.length_map]) hR3
        rw [ez] at hz
        refine ⟨_, D3, _, rfl, rfl, .inl (SqL.of hz), join_fits L, ?_⟩
        have kt2 := (kt.trans (Kt.same sB))
        have hLz := sB _ _ hL
        refine ⟨_, rfl, .inl ⟨rfl, _, SqL.of hLz⟩, ?_⟩
        refine ⟨_, rfl, numS r.d, "<4", false, 4, rfl, rfl, Fs.asks_l4, by omega, _, rfl, by simp only [PySem.Str.length_append, z0, z1]; omega, ?_⟩
        refine ⟨_, rfl, by simp only [PySem.Str.length_append, z0, z1]; omega, ?_⟩
        refine ⟨_, rfl, srt r.b, "<5", false, 5, rfl, rfl, Fs.asks_l5, by omega, _, rfl, by simp only [PySem.Str.length_append, z0, z1]; omega, ?_⟩
        refine ⟨_, rfl, by simp only [PySem.Str.length_append, z0, z1]; omega, ?_⟩
        refine ⟨_, rfl, cT r.c, ">2", true, 2, by rw [hc]; rfl, rfl, Fs.asks_r2, by omega, _, rfl, by simp only [PySem.Str.length_append, z0, z1]; omega, ?_⟩
        refine ⟨_, rfl, .inl ⟨_, rfl, by omega, _, rfl, by simp only [PySem.Str.length_append, z0, z1]; omega, ?_⟩⟩
        have ll : (bs.take i).length ≤ 30 := by rw [List.length_take]; omega
        refine ⟨D, _, _, rfl, rfl, hLz, by rw [List.length_map, List.length_map]; exact small1000 (by omega), ?_⟩
        refine ⟨_, _, _, _, _, _, rfl, same_mut (sA.trans sB) hD, kt2.trans (Kt.lst hLz), ?_⟩
        rw [upd_same, tk_succ hbi, List.map_append, List.map_append]
        show some (HO.lst (_ ++ [V.str (lineT r)])) = some (HO.lst (_ ++ [V.str (lineT (wrD n hh bs x))]))
        rw [er]
    · obtain ⟨v4, v5, v6, v7, v8, v9, rfl, sA, kt, hL⟩ := hP
      have el := hW.1
      rw [List.length_map] at el
      rw [el, List.take_of_length_le (Nat.le_refl _)] at hL
      refine ⟨_, rfl, D, _, rfl, .inl ⟨SqL.of hL, fun u hu => ?_⟩⟩
      exact k _ u (sA.trans (same_new hu)) (sA.free hu) upd_same
theorem join_one (a : Str) (ys : List Str) : tl (Txt.join " " (a :: ys)) = tl a ++ (ys.map fun y => 32 :: tl y).flatten := by
  rw [join_eq, tl_join]
  have sp : tl (" " : Str) = [32] := by decide +kernel
  rw [sp]
  induction ys generalizing a with
  | nil => simp [joinL]
  | cons y ys ih =>
    have := ih y
    rw [List.map_cons] at this
    rw [List.map_cons, List.map_cons]
    show tl a ++ ([32] ++ joinL [32] (tl y :: ys.map tl)) = _
    rw [this]
    simp
theorem line_eq (r : Wr) : Txt.join " " ([Fs.txt false (numS r.d) 4, Fs.txt false (srt r.b) 5, Fs.txt true (cT r.c) 2] ++ r.al) = lineT r := by
  have sp : tl (" " : Str) = [32] := by decide +kernel
  have e : tl (Txt.join " " ([Fs.txt false (numS r.d) 4, Fs.txt false (srt r.b) 5, Fs.txt true (cT r.c) 2] ++ r.al)) = tl (lineT r) := by
    show tl (Txt.join " " (_ :: (_ :: _ :: r.al))) = _
    rw [join_one]
    unfold lineT
    rw [tl_append, tl_append, tl_append, tl_append, tl_append, tl_append, tl_join0, show tl Str.empty = [] from rfl, sp, List.nil_append, List.map_map]
    have f : (r.al.map (tl ∘ fun a : Str => " " ++ a)) = r.al.map fun y => 32 :: tl y := List.map_congr_left fun a _ => by
      show tl (" " ++ a) = _
      rw [tl_append, sp]
      rfl
    rw [f]
    simp
  exact PySem.Str.ext' (Array.toList_inj.mp e)
theorem line_fits {r : Wr} (L : Lin r) : (([Fs.txt false (numS r.d) 4, Fs.txt false (srt r.b) 5, Fs.txt true (cT r.c) 2] ++ r.al).map (·.length)).sum + ([Fs.txt false (numS r.d) 4, Fs.txt false (srt r.b) 5, Fs.txt true (cT r.c) 2] ++ r.al).length * (" " : Str).length ≤ 16777216 := by
  have b1 : (Fs.txt false (numS r.d) 4).length ≤ 8 := Nat.le_trans (txt_len _ _ _) (by have := num_len L.N; omega)
  have b2 : (Fs.txt false (srt r.b) 5).length ≤ 10 := Nat.le_trans (txt_len _ _ _) (by have := srt_len r.b; omega)
  have b3 : (Fs.txt true (cT r.c) 2).length ≤ 22 := Nat.le_trans (txt_len _ _ _) (by have := cT_len L; omega)
  have b : ∀ xs : List Str, (∀ a ∈ xs, a.length ≤ 4) → (xs.map (·.length)).sum ≤ 4 * xs.length := by
    intro xs
    induction xs with
    | nil => intro _; exact Nat.le_refl _
    | cons a xs ih =>
      intro h
      have i := ih fun z m => h z (List.mem_cons_of_mem _ m)
      have e := h a List.mem_cons_self
      rw [List.map_cons, List.sum_cons, List.length_cons]
      omega
  have b4 := b r.al L.sh
  have b5 := L.few
  have z1 : (" " : Str).length = 1 := rfl
  rw [z1, List.map_append, List.sum_append, List.length_append]
  show ((Fs.txt false (numS r.d) 4).length + ((Fs.txt false (srt r.b) 5).length + ((Fs.txt true (cT r.c) 2).length + 0))) + _ + (3 + _) * 1 ≤ _
  omega
theorem ok_line (T : Txt K mg) : FnOk P w K mg base CX0 1 T.a_line T.d_line ["_law_row"] (sp_line K) := by
  refine T.F_line.ok sc_line (fun vs H Q E h => ?_) (fun cdv A outer s H vs Q E hr h => ?_)
  · obtain ⟨v, r, rfl, _⟩ := h
    rfl
  · obtain ⟨v, r, rfl, ⟨q, u, rfl, hq, hu⟩, L, k⟩ := h
    refine ⟨_, (pss_cons (ps_set (i := 1) sc_line.nd rfl (Or.inl rfl) (pe_lst (pa_cons (pe_m1 PySem.F.slot_str_ljust PySem.F.type_str_ljust mt_ljust (pe_ix ix_tup (pv 0) pe_int (fun _ _ => rfl)) pe_int) (pa_cons (pe_m1 PySem.F.slot_str_ljust PySem.F.type_str_ljust mt_ljust (pe_ix ix_tup (pv 0) pe_int (fun _ _ => rfl)) pe_int) (pa_cons (pe_m1 PySem.F.slot_str_rjust PySem.F.type_str_rjust mt_rjust (pe_ifExp (pt_cmpR op_isN (pe_ix ix_tup (pv 0) pe_int (fun _ _ => rfl)) pe_non (nomark _)) pe_str (pe_callTy call_str_int (by rfl) T.z_str (by decide +kernel) (pa_cons (pe_ix ix_tup (pv 0) pe_int (fun _ _ => rfl)) pa_nil))) pe_int) pa_nil)))))
      (pss_one (ps_ret (pe_join pe_str (pe_op op_cat (pv 1) (pe_callTy call_list_of (by rfl) T.z_list (by decide +kernel) (pa_cons (pe_ix ix_tup (pv 0) pe_int (fun _ _ => rfl)) pa_nil))))))), ?_⟩
    refine ⟨_, rfl, q, _, 0, _, rfl, rfl, hq, atI_nat (j := 0) rfl, ⟨_, rfl⟩, _, _, rfl, rfl, by decide, ?_⟩
    refine ⟨_, rfl, q, _, 1, _, rfl, rfl, hq, atI_nat (j := 1) rfl, ⟨_, rfl⟩, _, _, rfl, rfl, by decide, ?_⟩
    refine ⟨_, rfl, q, _, 2, _, rfl, rfl, hq, atI_nat (j := 2) rfl, rfl, _, rfl, ?_⟩
    have fin : ∀ (H1 : Hp) (f : Addr), H f = none → H1 = upd H f (.lst ([Fs.txt false (numS r.d) 4, Fs.txt false (srt r.b) 5, Fs.txt true (cT r.c) 2].map V.str)) → ∀ l, H1 l = none →
        f ≠ l ∧ Same H (upd H1 l (.lst (r.al.map V.str))) ∧ upd H1 l (.lst (r.al.map V.str)) f = some (.lst ([Fs.txt false (numS r.d) 4, Fs.txt false (srt r.b) 5, Fs.txt true (cT r.c) 2].map V.str)) := fun H1 f hf e l hl => by
      subst e
      have nl : f ≠ l := fun z => by subst z; rw [upd_same] at hl; cases hl
      exact ⟨nl, (same_new hf).trans (same_new hl), by rw [upd_ne nl]; exact upd_same⟩
    cases hc : r.c with
    | none =>
      rw [hc] at fin
      refine iteT ?_
      refine ⟨⟨_, rfl⟩, _, _, rfl, rfl, by decide, ?_⟩
      refine ⟨by show 3 ≤ sizeLine; decide, fun f hf => ?_⟩
      have s1 := fun o => same_new (o := o) hf
      refine ⟨⟨_, rfl⟩, _, rfl, _, rfl, q, _, 3, _, rfl, rfl, sameT (s1 _) hq, atI_nat (j := 3) rfl, u, _, rfl, .inr (sameT (s1 _) hu), fun l hl => ?_⟩
      obtain ⟨nl, sm, hf2⟩ := fin _ f hf rfl l hl
      refine ⟨f, l, _, _, rfl, rfl, hf2, upd_same, Nat.le_of_lt (small1000 (by have := L.few; show 3 + (r.al.map V.str).length ≤ 1000; rw [List.length_map]; omega)), fun p hp => ?_⟩
      have k := k _ (sm.trans (same_new (o := .lst ([Fs.txt false (numS r.d) 4, Fs.txt false (srt r.b) 5, Fs.txt true (cT none) 2].map V.str ++ r.al.map V.str)) hp))
      have fits := line_fits L
      rw [← line_eq] at k
      rw [hc] at fits k
      refine ⟨_, p, [Fs.txt false (numS r.d) 4, Fs.txt false (srt r.b) 5, Fs.txt true (cT none) 2] ++ r.al, rfl, rfl, .inl (SqL.of (by rw [List.map_append]; exact upd_same)), fits, k⟩
    | some c =>
      rw [hc] at fin
      have hcb := L.c c hc
      refine iteF ⟨_, rfl, q, _, 2, _, rfl, rfl, hq, atI_nat (j := 2) rfl, c, by rw [hc]; rfl, log_small hcb.1 hcb.2, ?_⟩
      refine ⟨⟨_, rfl⟩, _, _, rfl, rfl, by decide, ?_⟩
      refine ⟨by show 3 ≤ sizeLine; decide, fun f hf => ?_⟩
      have s1 := fun o => same_new (o := o) hf
      refine ⟨⟨_, rfl⟩, _, rfl, _, rfl, q, _, 3, _, rfl, rfl, sameT (s1 _) hq, atI_nat (j := 3) rfl, u, _, rfl, .inr (sameT (s1 _) hu), fun l hl => ?_⟩
      obtain ⟨nl, sm, hf2⟩ := fin _ f hf rfl l hl
      refine ⟨f, l, _, _, rfl, rfl, hf2, upd_same, Nat.le_of_lt (small1000 (by have := L.few; show 3 + (r.al.map V.str).length ≤ 1000; rw [List.length_map]; omega)), fun p hp => ?_⟩
      have k := k _ (sm.trans (same_new (o := .lst ([Fs.txt false (numS r.d) 4, Fs.txt false (srt r.b) 5, Fs.txt true (cT (some c)) 2].map V.str ++ r.al.map V.str)) hp))
      have fits := line_fits L
      rw [← line_eq] at k
      rw [hc] at fits k
      refine ⟨_, p, [Fs.txt false (numS r.d) 4, Fs.txt false (srt r.b) 5, Fs.txt true (cT (some c)) 2] ++ r.al, rfl, rfl, .inl (SqL.of (by rw [List.map_append]; exact upd_same)), fits, k⟩
end
end K47

namespace K47
open PySem L2 Wm TL Dv
section
variable {P : Program} {w : World} {K : PySem.W.Frag} {mg : Str → Option Value} {base : Heap}
theorem bt_free {H H' : Hp} {b p : Addr} {m : Nat} (e : Bt b H H') (bag : Bg H' b m) (f : H' p = none) : H p = none := by
  by_cases c : p = b
  · subst c
    obtain ⟨_, _, _, _, _, _, h, _⟩ := bag
    rw [h] at f
    cases f
  · cases h : H p with
    | none => rfl
    | some o =>
      rw [e.keep _ _ c h] at f
      cases f
theorem BxsS.bt {H H' : Hp} {b : Addr} {m : Nat} {xs : List V} {bs : List Bx} (h : BxsS H xs bs) (bag : Bg H b m) (e : Bt b H H') : BxsS H' xs bs := ⟨h.1, fun i v hv => by
  obtain ⟨x, q, hx, rfl, hq⟩ := h.2 i v hv
  have n : q ≠ b := fun z => by
    subst z
    obtain ⟨_, _, _, _, _, _, h, _⟩ := bag
    rw [h] at hq
    cases hq
  exact ⟨x, q, hx, rfl, e.keep _ _ n hq⟩⟩
theorem BxsS.k {H H' : Hp} {xs : List V} {bs : List Bx} (h : BxsS H xs bs) (e : Same H H') : BxsS H' xs bs := ⟨h.1, fun i v hv => by
  obtain ⟨x, q, hx, rfl, hq⟩ := h.2 i v hv
  exact ⟨x, q, hx, rfl, e _ _ hq⟩⟩
theorem BxsS.put {H : Hp} {p : Addr} {xs ys zs : List V} {bs : List Bx} (h : BxsS H xs bs) (hp : H p = some (.lst ys)) : BxsS (upd H p (.lst zs)) xs bs := ⟨h.1, fun i v hv => by
  obtain ⟨x, q, hx, rfl, hq⟩ := h.2 i v hv
  have n : q ≠ p := fun z => by subst z; rw [hq] at hp; cases hp
  exact ⟨x, q, hx, rfl, by rw [upd_ne n]; exact hq⟩⟩
theorem BxsS.at {H : Hp} {xs : List V} {bs : List Bx} (h : BxsS H xs bs) : BxsAt K H xs bs := ⟨h.1, fun i v hv => by
  obtain ⟨x, q, hx, e, hq⟩ := h.2 i v hv
  exact ⟨x, hx, q, e, SqT.of hq⟩⟩
theorem BxsS.snoc {H : Hp} {xs : List V} {bs : List Bx} {q : Addr} {x : Bx} (h : BxsS H xs bs) (hq : H q = some (.tup [.str (numS x.1), .str (srt x.2)])) : BxsS H (xs ++ [.ref q]) (bs ++ [x]) := ⟨by rw [List.length_append, List.length_append, h.1]; rfl, fun i v hv => by
  by_cases c : i < xs.length
  · rw [List.getElem?_append_left c] at hv
    obtain ⟨y, r, hy, e, hr⟩ := h.2 i v hv
    exact ⟨y, r, by rw [List.getElem?_append_left (by have := h.1; omega)]; exact hy, e, hr⟩
  · have il := (List.getElem?_eq_some_iff.mp hv).1
    rw [List.length_append] at il
    have : i = xs.length := by simp at il; omega
    subst this
    rw [List.getElem?_append_right (Nat.le_refl _), Nat.sub_self] at hv
    exact ⟨x, q, by rw [h.1, List.getElem?_append_right (Nat.le_refl _), Nat.sub_self]; rfl, (Option.some.inj hv).symm, hq⟩⟩
theorem srt_at {d : Int} (h0 : 0 ≤ d) (h1 : d < 2) : ∃ x : Bool, atI [V.str "plain", V.str "shy"] d = some (.str (srt x)) := by
  have c : d = 0 ∨ d = 1 := by omega
  rcases c with z | z <;> subst z
  · exact ⟨false, rfl⟩
  · exact ⟨true, rfl⟩
theorem num_rev (ds : List Nat) : Rt.revS (numS ds) = numS ds.reverse := by
  unfold Rt.revS numS codes
  congr 1
  rw [List.map_reverse]
theorem num_turn {ds : List Nat} (N : Num ds) : Num ds.reverse := ⟨by rw [List.length_reverse]; exact N.pos, by rw [List.length_reverse]; exact N.len, fun d m => N.dig d (List.mem_reverse.mp m), by rw [List.sum_reverse]; exact N.sum⟩
theorem atL_last {α : Type} {xs : List α} {z : α} (h : xs[xs.length - 1]? = some z) : atI xs (-1) = some z := by
  have lt := (List.getElem?_eq_some_iff.mp h).1
  have hne : xs ≠ [] := fun e => by subst e; simp at lt
  obtain ⟨ys, w, rfl⟩ : ∃ ys w, xs = ys ++ [w] := ⟨xs.dropLast, xs.getLast hne, (List.dropLast_concat_getLast hne).symm⟩
  have e : w = z := by simpa using h
  subst e
  exact atI_last _ _
def bxD (x : Bx) : PyData := .tuple [.str (numS x.1), .str (srt x.2)]
theorem dp_boxes {H : Hp} : ∀ {xs : List V} {bs : List Bx}, BxsAt K H xs bs → DpAll K H xs (bs.map bxD)
  | [], [], _ => .nil
  | [], b :: bs, h => absurd h.1 (by simp)
  | v :: xs, [], h => absurd h.1 (by simp)
  | v :: xs, b :: bs, h => by
    obtain ⟨x, hx, q, rfl, hq⟩ := h.2 0 v rfl
    have e : b = x := Option.some.inj hx
    subst e
    exact .cons (.tup hq (.cons (.str _) (.cons (.str _) .nil))) (dp_boxes ⟨by simpa using h.1, fun i w hw => h.2 (i + 1) w (by simpa using hw)⟩)
theorem fine_srt {n : Nat} (b : Bool) : Fine n (.str (srt b)) := fine_str (by cases b <;> decide +kernel)
theorem fine_numN {n : Nat} {ds : List Nat} (N : Num ds) : Fine n (.str (numS ds)) := fine_num fun d m => (N.dig d m).2
theorem fine_bx {x : Bx} (N : Num x.1) : Fine 1 (bxD x) := fine_tup (n := 0) fun d m => by
  rcases List.mem_cons.mp m with rfl | m
  · exact fine_numN N
  · rw [List.mem_singleton.mp m]; exact fine_srt _
theorem fine_lst {n : Nat} {ds : List PyData} (h : ∀ d ∈ ds, Fine n d) : Fine (n + 1) (.list ds) := by
  have t := fine_tup h
  refine ⟨?_, ?_⟩
  · have := t.1
    simp only [PyData.canLay0] at this ⊢
    exact this
  · have := t.2
    simp only [PyData.depth] at this ⊢
    exact this
theorem eqv_lnil (ds : List PyData) : PyData.eqv (.list ds) (.list []) = ds.isEmpty := by
  cases ds <;> simp [PyData.eqv, PyData.eqvAll]
theorem ok_wire (T : Txt K mg) : FnOk P w K mg base CX0 3 T.a_wire T.d_wire ["_law_state"] (sp_wire K) := by
  refine T.F_wire.ok sc_wire (fun vs H Q E h => ?_) (fun cdv A outer s H vs Q E hr h => ?_)
  · obtain ⟨b, n, rfl, _⟩ := h
    rfl
  · obtain ⟨b, n, rfl, bag, hn, k⟩ := h
    refine ⟨_, (pss_cons (ps_set (i := 1) sc_wire.nd rfl (Or.inl rfl) (pe_lst pa_nil))
      (pss_cons (ps_for PassesOwn.never rfl (pi_range1 (by rfl) T.z_range (pa_cons (pe_op op_add pe_int (pe_call (ok_draw T) (hr.mono (by decide)) (by rfl) T.g_draw T.F_draw.kp T.b_draw .nil pass0 (pa_cons (pv 0) (pa_cons pe_int pa_nil)))) pa_nil)) (pg_name (i := 2) sc_wire.nd rfl (Or.inl rfl))
        (pss_cons (ps_set (i := 3) sc_wire.nd rfl (Or.inl rfl) (pe_call (ok_number T) (hr.mono (by decide)) (by rfl) T.g_number T.F_number.kp T.b_number .nil pass0 (pa_cons (pv 0) pa_nil)))
        (C8.pss_cut (ps_if (PW.pt (pw_and (pt_cmpR (op_neD hr.units) (pv 1) (pe_lst pa_nil) (nomark _)) (pw_and1 (pt_cmpR op_eq (pe_call (ok_draw T) (hr.mono (by decide)) (by rfl) T.g_draw T.F_draw.kp T.b_draw .nil pass0 (pa_cons (pv 0) (pa_cons pe_int pa_nil))) pe_int (nomark _)))))
          (pss_one (ps_set (i := 3) sc_wire.nd rfl (Or.inl rfl) (Rt.pe_revT (pe_ix ix_tup (pe_ix ix_list (pv 1) (pe_un un_neg pe_int) (fun _ _ => rfl)) pe_int (fun _ _ => rfl)))))
          pss_nil)
        (pss_one (ps_if (pt_cmpR op_notIn_seq (pv 3) (pe_lc (own := [("_law_box", 4)]) (g := gName 4) (tt := tYes) rfl sc_wire.nd (pi_list (pv 1)) (blkOk_by (own := [("_law_box", 4)]) (N := nm_wire) (sc := (defScope s_wire)) (by decide +kernel)) (fun _ _ _ _ _ => pg_name (i := 4) sc_wire.nd rfl (Or.inl rfl)) (fun _ _ _ _ _ => pts_nil) (fun _ _ _ _ _ => (pe_ix (show IxR _ (rIxT K) from ix_tup) (pv 4) pe_int (fun _ _ => rfl)))) rfl)
          (pss_one (ps_expr (pe_bm PySem.F.plainAttrs_list PySem.F.slot_list_append PySem.F.type_list_append mt_append (pv 1) (pa_cons (pe_tup (pa_cons (pv 3) (pa_cons (pe_ix ix_tup (pe_tup (pa_cons pe_str (pa_cons pe_str pa_nil))) (pe_call (ok_draw T) (hr.mono (by decide)) (by rfl) T.g_draw T.F_draw.kp T.b_draw .nil pass0 (pa_cons (pv 0) (pa_cons pe_int pa_nil))) (fun _ _ => rfl)) pa_nil))) pa_nil))))
          pss_nil)))))
      (pss_one (ps_ret (pv 1))))), ?_⟩
    refine ⟨Nat.zero_le _, fun p hp => ?_⟩
    have sp := same_new (o := .lst []) hp
    have np := bag.off hp
    have hp1 := upd_same (H := H) (a := p) (o := .lst [])
    have bag1 := bag.keep sp
    have but1 := Bt.of (b := b) sp
    generalize upd H p (.lst []) = H1 at *
    refine ⟨_, rfl, b, _, 5, rfl, by decide, by decide, bag1, by omega, fun H2 m m0 m5 bag2 but2 => ⟨_, _, rfl, rfl, _, rfl, by omega, by omega, ?_⟩⟩
    refine for_range (fun i σ A => ∃ (v2 v3 : Option V) (xs : List V) (bs : List Bx), σ = [some (.ref b), some (.ref p), v2, v3, none] ∧ A p = some (.lst xs) ∧ BxsS A xs bs ∧ bs.length ≤ i ∧ (1 ≤ i → 1 ≤ bs.length) ∧ (∀ y ∈ bs, Num y.1) ∧ (bs.map fun y => numS y.1).Nodup ∧ Bg A b (n + 10 + 30 * i) ∧ Bt b H A)
      ⟨none, none, [], [], rfl, but2.keep _ _ np hp1, ⟨rfl, fun i v hv => by cases hv⟩, Nat.zero_le _, fun h => absurd h (by decide), fun y m => (by cases m), by simp, bag2.mono (by omega), but1.trans but2⟩ (fun i σ A hi hP => ?_) (fun σ A hP => ?_)
    · obtain ⟨v2, v3, xs, bs, rfl, hA, bx, bl, bl1, bN, bnd, bagA, butA⟩ := hP
      have hi : i < 5 := by omega
      refine ⟨_, rfl, b, _, rfl, bagA, by omega, fun A1 ws W bag3 but3 => ?_⟩
      have hA1 := but3.keep _ _ np hA
      have bx1 := bx.bt bagA but3
      have butA1 := butA.trans but3
      refine ⟨fun σ B => ∃ (v2 : Option V) (es : List Nat), σ = [some (.ref b), some (.ref p), v2, some (.str (numS es)), none] ∧ Num es ∧ (bs = [] → Same A1 B ∨ True) ∧ B p = some (.lst xs) ∧ BxsS B xs bs ∧ Bg B b (n + 10 + 30 * i + 20) ∧ Bt b H B, ?_, ?_⟩
      · refine ⟨_, rfl, Nat.zero_le _, fun e he => ?_⟩
        have se := same_new (o := .lst []) he
        have hAe := se _ _ hA1
        have bxe := bx1.k se
        have bage := bag3.keep se
        have bute := butA1.trans (Bt.of se)
        have hee := upd_same (H := A1) (a := e) (o := .lst [])
        generalize upd A1 e (.lst []) = A2 at *
        refine ⟨.list (bs.map bxD), .list [], .lst (SqL.of hAe) (dp_boxes bxe.at), .lst (SqL.of hee) .nil, (fine_lst fun d m => by
          obtain ⟨y, my, rfl⟩ := List.mem_map.mp m
          exact fine_bx (bN y my)).shaped (by decide), (fine_lst (n := 0) fun d m => by cases m).shaped (by decide), _, rfl, ?_⟩
        rw [eqv_lnil]
        cases hbs : bs with
        | nil =>
          refine iteF ?_
          exact ⟨_, ws, rfl, W, fun _ => .inr trivial, hAe, by rw [← hbs]; exact bxe, bage.mono (by omega), bute⟩
        | cons y yr =>
          refine iteT ?_
          refine ⟨_, rfl, b, _, 3, rfl, by decide, by decide, bage, by omega, fun A3 d d0 d3 bag4 but4 => ?_⟩
          have hA4 := but4.keep _ _ np hAe
          have bx4 := bxe.bt bage but4
          have but5 := bute.trans but4
          refine ⟨rfl, _, rfl, ite2 (fun c => ?_) (fun c => ?_)⟩
          · obtain ⟨v, hv⟩ : ∃ v, xs[xs.length - 1]? = some v := ⟨_, List.getElem?_eq_getElem (by have := bx4.1; rw [hbs] at this; rw [List.length_cons] at this; omega)⟩
            obtain ⟨x, u, hx, rfl, hu⟩ := bx4.2 _ v hv
            have X := bN x (List.mem_of_getElem? hx)
            refine ⟨_, rfl, _, rfl, p, _, -1, _, rfl, rfl, SqL.of hA4, atL_last hv, u, _, 0, _, rfl, rfl, SqT.of hu, atI_nat (j := 0) rfl, _, rfl, Nat.le_of_lt (small1000 (by have := num_len X; omega)), ?_⟩
            rw [num_rev]
            exact ⟨_, x.1.reverse, rfl, num_turn X, fun z => (by cases z), hA4, by rw [← hbs]; exact bx4, bag4.mono (by omega), but5⟩
          · exact ⟨_, ws, rfl, W, fun z => (by cases z), hA4, by rw [← hbs]; exact bx4, bag4.mono (by omega), but5⟩
      rintro σ A4 ⟨v2, es, rfl, E', _, hA4, bx4, bag4, but4⟩
      refine ⟨_, rfl, _, rfl, p, rfl, ⟨_, SqL.of hA4⟩, fun D hD => ?_⟩
      refine Lm.lc_map (K := K) walk_list (fun i y _ => (bs.map fun b => V.str (numS b.1))[i]? = some y) (fun _ _ _ _ h _ => h) hD (by have := bx4.1; omega) (fun H' s => SqL.of (s _ _ hA4)) (fun i x H' hi hx sm Q2 Z q => ?_) (fun A5 ys s2 hy ly hR => ?_)
      · obtain ⟨y, u, hyb, rfl, hu⟩ := (bx4.k sm).2 i x hx
        refine ⟨rfl, yesT ?_⟩
        refine ⟨_, rfl, u, _, 0, _, rfl, rfl, SqT.of hu, atI_nat (j := 0) rfl, q _ _ (Same.refl _) ?_⟩
        rw [List.getElem?_map, hyb]
        rfl
      have ey : ys = (bs.map fun b => numS b.1).map V.str := by
        rw [List.map_map]
        exact Lm.list_is (by rw [ly, List.length_map, bx4.1]) hR
      rw [ey] at hy
      have hA5 := s2 _ _ hA4
      have bx5 := bx4.k s2
      have bag5 := bag4.keep s2
      have but5 := but4.trans (Bt.of s2)
      refine ⟨D, _, rfl, .inl (SqL.of hy), rfl, flat_strs _, _, rfl, ite2 (fun c2 => ?_) (fun c2 => ?_)⟩
      case refine_2 =>
        have mm : 1 ≤ bs.length := by
          cases hbs : bs with
          | nil =>
            subst hbs
            exact absurd (show (!inV (.str (numS es)) (([] : List Bx).map fun b => numS b.1 |> V.str)) = true from rfl) c2
          | cons y yr => rw [List.length_cons]; omega
        exact ⟨_, _, xs, bs, rfl, hA5, bx5, by omega, fun _ => mm, bN, bnd, bag5.mono (by omega), but5⟩
      have nin : numS es ∉ bs.map fun b => numS b.1 := fun mm => by
        have c2 : (!inV (.str (numS es)) ((bs.map fun b => numS b.1).map V.str)) = true := c2
        rw [in_strs, decide_eq_true mm] at c2
        cases c2
      refine ⟨_, rfl, .inl ⟨rfl, _, SqL.of hA5⟩, _, rfl, by show 2 ≤ sizeLine; decide, fun t ht => ?_⟩
      have st := same_new (o := .tup [.str "plain", .str "shy"]) ht
      have ht2 : upd A5 t (.tup [.str "plain", .str "shy"]) t = some (.tup [.str "plain", .str "shy"]) := upd_same
      have tb := bag5.off ht
      refine ⟨_, rfl, b, _, 2, rfl, by decide, by omega, bag5.keep st, by omega, fun A6 d d0 d2 bag6 but6 => ?_⟩
      obtain ⟨y, hx⟩ := srt_at d0 d2
      refine ⟨t, _, d, _, rfl, rfl, SqT.of (but6.keep _ _ tb ht2), hx, ?_⟩
      refine ⟨by show 2 ≤ sizeLine; decide, fun t3 ht3 => ?_⟩
      have s3 := same_new (o := .tup [.str (numS es), .str (srt y)]) ht3
      have hA6 := s3 _ _ (but6.keep _ _ np (st _ _ hA5))
      have bx6 := ((bx5.k st).bt (bag5.keep st) but6).k s3
      have hnew : upd A6 t3 (.tup [.str (numS es), .str (srt y)]) t3 = some (.tup [.str (numS es), .str (srt y)]) := upd_same
      have bag7 := bag6.keep s3
      have but7 := ((but5.trans (Bt.of st)).trans but6).trans (Bt.of s3)
      generalize upd A6 t3 (.tup [.str (numS es), .str (srt y)]) = A7 at *
      refine ⟨p, _, _, rfl, rfl, hA6, by have := bx6.1; exact small1000 (by omega), ?_⟩
      have bx8 := (bx6.snoc (x := (es, y)) hnew).put (zs := xs ++ [.ref t3]) hA6
      refine ⟨_, _, xs ++ [.ref t3], bs ++ [(es, y)], rfl, upd_same, bx8, by rw [List.length_append]; show bs.length + 1 ≤ _; omega, fun _ => by rw [List.length_append]; show 1 ≤ bs.length + 1; omega, fun z mz => ?_, ?_, (Bg.put (o := .lst (xs ++ [.ref t3])) bag hp but7 bag7).mono (by omega), but7.put hp⟩
      · rcases List.mem_append.mp mz with z | z
        · exact bN _ z
        · rw [List.mem_singleton.mp z]; exact E'
      · rw [List.map_append]
        refine List.nodup_append.mpr ⟨bnd, by simp, fun a ma b mb e => ?_⟩
        rw [List.mem_singleton.mp mb] at e
        have e : a = numS es := e
        rw [e] at ma
        exact nin ma
    · obtain ⟨v2, v3, xs, bs, rfl, hA, bx, bl, bl1, bN, bnd, bagA, butA⟩ := hP
      have e1 := bl1 (by omega)
      exact ⟨_, rfl, k _ p xs bs np hA bx ⟨e1, by omega, bN, bnd⟩ (by omega) (bagA.mono (by omega)) butA⟩
end
end K47

namespace K47
open PySem L2 Wm TL Dv
section
variable {P : Program} {w : World} {K : PySem.W.Frag} {mg : Str → Option Value} {base : Heap}
theorem cut_take (xs : List V) (i : Nat) : cutV xs none (some (i : Int)) = xs.take i := by
  unfold cutV
  rw [HT.sIx_none, HT.sIx_nat, List.drop_zero, Nat.sub_zero]
  by_cases c : i ≤ xs.length
  · rw [Nat.min_eq_left c]
  · rw [Nat.min_eq_right (by omega), List.take_of_length_le (Nat.le_refl _), List.take_of_length_le (by omega)]
theorem cut_drop (xs : List V) (i : Nat) : cutV xs (some ((i : Int) + 1)) none = xs.drop (i + 1) := by
  unfold cutV
  rw [show ((i : Int) + 1) = ((i + 1 : Nat) : Int) by omega, HT.sIx_none, HT.sIx_nat]
  by_cases c : i + 1 ≤ xs.length
  · rw [Nat.min_eq_left c]
    exact List.take_of_length_le (by rw [List.length_drop]; exact Nat.le_refl _)
  · rw [Nat.min_eq_right (by omega), List.drop_length, List.drop_eq_nil_of_le (by omega)]
    exact List.take_nil
theorem nodup_inj {α β : Type} {f : α → β} : ∀ {l : List α}, (l.map f).Nodup → ∀ {x y : α}, x ∈ l → y ∈ l → f x = f y → x = y
  | z :: l, nd, x, y, mx, my, e => by
    rw [List.map_cons, List.nodup_cons] at nd
    rcases List.mem_cons.mp mx with ex | mx
    · rcases List.mem_cons.mp my with ey | my
      · rw [ex, ey]
      · exact absurd (List.mem_map.mpr ⟨y, my, by rw [← e, ex]⟩) nd.1
    · rcases List.mem_cons.mp my with ey | my
      · exact absurd (List.mem_map.mpr ⟨x, mx, by rw [e, ey]⟩) nd.1
      · exact nodup_inj nd.2 mx my e
theorem oth_cut {bs : List Bx} (nd : (bs.map fun x => numS x.1).Nodup) {i : Nat} {x : Bx} (h : bs[i]? = some x) : othL bs x.1 = bs.take i ++ bs.drop (i + 1) := by
  obtain ⟨lt, e⟩ := List.getElem?_eq_some_iff.mp h
  have sp : bs = bs.take i ++ x :: bs.drop (i + 1) := by
    rw [← e, List.getElem_cons_drop lt, List.take_append_drop]
  have key : ∀ a b : List Bx, ((a ++ x :: b).map fun x => numS x.1).Nodup → othL (a ++ x :: b) x.1 = a ++ b := fun a b nd => by
    unfold othL
    rw [List.map_append, List.map_cons, List.nodup_append] at nd
    obtain ⟨n1, n2, n3⟩ := nd
    rw [List.nodup_cons] at n2
    rw [List.filter_append, List.filter_cons, if_neg (by simp)]
    congr 1
    · refine List.filter_eq_self.mpr fun y my => decide_eq_true fun z => ?_
      exact n3 _ (List.mem_map.mpr ⟨y, my, rfl⟩) _ List.mem_cons_self (by rw [z])
    · refine List.filter_eq_self.mpr fun y my => decide_eq_true fun z => ?_
      exact n2.1 (List.mem_map.mpr ⟨y, my, by rw [z]⟩)
  have k := key (bs.take i) (bs.drop (i + 1)) (by rw [← sp]; exact nd)
  rw [← sp] at k
  exact k
theorem mem_al {o : List Bx} {f : Bx → Bool} (nd : (o.map fun x => numS x.1).Nodup) {y : Bx} (m : y ∈ o) : decide (numS y.1 ∈ (o.filter f).map fun y => numS y.1) = f y := by
  by_cases c : f y = true
  · rw [c]
    exact decide_eq_true (List.mem_map.mpr ⟨y, List.mem_filter.mpr ⟨m, c⟩, rfl⟩)
  · rw [Bool.eq_false_iff.mpr c]
    refine decide_eq_false fun h => ?_
    obtain ⟨z, mz, e⟩ := List.mem_map.mp h
    obtain ⟨m1, m2⟩ := List.mem_filter.mp mz
    rw [nodup_inj nd m1 m e] at m2
    exact c m2
theorem BxsAt.cut {H : Hp} {xs : List V} {bs : List Bx} (h : BxsAt K H xs bs) (i : Nat) : BxsAt K H (xs.take i ++ xs.drop (i + 1)) (bs.take i ++ bs.drop (i + 1)) := by
  refine ⟨by rw [List.length_append, List.length_append, List.length_take, List.length_take, List.length_drop, List.length_drop, h.1], fun j v hv => ?_⟩
  by_cases c : j < (xs.take i).length
  · rw [List.getElem?_append_left c] at hv
    rw [List.getElem?_append_left (by rw [List.length_take, ← h.1, ← List.length_take]; exact c)]
    rw [List.getElem?_take] at hv ⊢
    split at hv
    · rename_i lt
      rw [if_pos lt]
      exact h.2 j v hv
    · cases hv
  · rw [List.getElem?_append_right (by omega)] at hv
    have e : (xs.take i).length = (bs.take i).length := by rw [List.length_take, List.length_take, h.1]
    rw [List.getElem?_append_right (by omega), ← e]
    rw [List.getElem?_drop] at hv ⊢
    exact h.2 _ v hv
theorem hid_non {C : Addr} {H : Hp} {v : V} {ds : List Nat} {b : Bool} {o : Option (List Pul)} (h : HidAt K C H v ds b o) : decide (v = .non) = decide (oV (lenO o) = .non) := by
  cases o with
  | none =>
    have h : v = .non := h
    subst h
    rfl
  | some l =>
    obtain ⟨p, _, _, rfl, _⟩ := h
    rfl
theorem one_shy {ds : List Nat} {n : Nat} {y : Bx} (e : y.2 = true) : oneH ds true n 2 y = true := by
  unfold oneH hidO
  rw [if_pos rfl]
  unfold shyP
  rw [if_neg (by decide)]
  show decide ((match ([y] : List Bx).filter (fun z : Bx => z.2) with
    | y :: _ => some [(1, numS y.1)]
    | [] => some ((List.range (n - 2 + 1)).map fun i => (atF (sLn ds) ((n : Int) * sLn y.1) i, numS y.1))).map List.length = some 1) = true
  rw [List.filter_cons, if_pos e]
  rfl
theorem fine_al {n : Nat} {bs : List Bx} {x : Bx} {h : Int} (G : Page bs) (m : x ∈ bs) : ∀ d ∈ (wrD n h bs x).al.map PyData.str, Fine 0 d := fun d md => by
  obtain ⟨a, ma, rfl⟩ := List.mem_map.mp md
  obtain ⟨y, my, rfl⟩ := List.mem_map.mp ma
  exact fine_numN ((G.oth m).num y (List.mem_filter.mp my).1)
theorem dp_strs {H : Hp} : ∀ xs : List Str, DpAll K H (xs.map V.str) (xs.map PyData.str)
  | [] => .nil
  | x :: xs => .cons (.str x) (dp_strs xs)
theorem eqv_fine {n : Nat} {d : PyData} (h : Fine n d) : PyData.eqv d d = true := PySem.SeqAt.eqv_refl d h.1
theorem ok_row_told (T : Txt K mg) : FnOk P w K mg base CX0 13 T.a_row_told T.d_row_told ["_law_row", "_law_boxes", "_law_at", "_law_sends_here", "_law_alike"] (sp_row_told K) := by
  refine T.F_row_told.ok sc_row_told (fun vs H Q E h => ?_) (fun cdv A outer s H vs Q E hr h => ?_)
  · obtain ⟨v, p, xs, bs, i, n, hh, x, rfl, _⟩ := h
    rfl
  · obtain ⟨v, p, xs, bs, i, n, hh, x, rfl, hbi, ⟨q, u, rfl, hq, hu⟩, hS, hb, G, R, k⟩ := h
    have mx := List.mem_of_getElem? hbi
    have GO := G.oth mx
    have il := (List.getElem?_eq_some_iff.mp hbi).1
    have g2 := G.l2
    obtain ⟨v0, hv0⟩ : ∃ v, xs[i]? = some v := ⟨_, List.getElem?_eq_getElem (by rw [hb.1]; exact il)⟩
    obtain ⟨x0, hx0, w0, rfl, hw0⟩ := hb.2 i v0 hv0
    have ex0 : x = x0 := by
      rw [hbi] at hx0
      exact Option.some.inj hx0
    subst ex0
    have oc := oth_cut G.nd hbi
    have hq : SqT K H q [.str (numS x.1), .str (srt x.2), oV (lenO (hidO x.1 x.2 n hh (othL bs x.1))), .ref u] := hq
    refine ⟨_, (pss_cons (ps_asg (pe_ix ix_list (pv 1) (pv 2) (fun _ _ => rfl)) (pg_tup rfl (pgs_cons (pg_name (i := 5) sc_row_told.nd rfl (Or.inl rfl)) (pgs_cons (pg_name (i := 6) sc_row_told.nd rfl (Or.inl rfl)) pgs_nil))))
      (pss_cons (ps_set (i := 7) sc_row_told.nd rfl (Or.inl rfl) (pe_op op_cat (pe_slice sl_list (pv 1) po_none (po_some (pv 2))) (pe_slice sl_list (pv 1) (po_some (pe_op op_add (pv 2) pe_int)) po_none)))
      (pss_cons (ps_if (PW.pt (pw_or (pt_not (pt_val (pe_callB call_isi (by rfl) T.z_isinstance (by decide +kernel) (pa_cons (pv 0) (pa_cons (pe_bltn (v := V.ty "tuple") (by rfl) T.z_tuple (by decide +kernel) rfl) pa_nil))))) (pw_or (pt_cmpR op_ne (pe_callB call_len_seq (by rfl) T.z_len PySem.boot_len (pa_cons (pv 0) pa_nil)) pe_int (nomark _)) (pw_or (pt_cmpR (op_neD hr.units) (pe_slice sl_tupA (pv 0) po_none (po_some pe_int)) (pe_tup (pa_cons (pv 5) (pa_cons (pv 6) pa_nil))) (nomark _)) (pw_or1 (pt_not (pt_val (pe_callB call_isi (by rfl) T.z_isinstance (by decide +kernel) (pa_cons (pe_ix ix_tup (pv 0) pe_int (fun _ _ => rfl)) (pa_cons (pe_bltn (v := V.ty "tuple") (by rfl) T.z_tuple (by decide +kernel) rfl) pa_nil))))))))))
        (pss_one (ps_ret pe_bl))
        pss_nil)
      (pss_cons (ps_set (i := 8) sc_row_told.nd rfl (Or.inl rfl) (pe_callN (ok_hidden T) (hr.mono (by decide)) (by rfl) T.g_hidden T.F_hidden.kp T.kb2_hidden pass0 (pa_cons (pv 7) (pa_cons (pv 5) (pa_cons (pv 6) pa_nil))) (pk_cons (pv 3) (pk_cons (pv 4) pk_nil))))
      (pss_cons (ps_if (pt_cmpR op_ne (pe_cmpR op_isN (pv 8) pe_non (nomark _)) (pe_cmpR op_isN (pe_ix ix_tup (pv 0) pe_int (fun _ _ => rfl)) pe_non (nomark _)) (nomark _))
        (pss_one (ps_ret pe_bl))
        pss_nil)
      (pss_cons (ps_if (PW.pt (pw_and (pt_cmpR op_notN (pv 8) pe_non (nomark _)) (pw_and1 (PW.pt (pw_or (pt_not (pt_val (pe_call (ok_wwhole T) (hr.mono (by decide)) (by rfl) T.g_wwhole T.F_wwhole.kp T.b_wwhole .nil pass0 (pa_cons (pe_ix ix_tup (pv 0) pe_int (fun _ _ => rfl)) pa_nil)))) (pw_or (pt_cmpR op_ne (pe_ix ix_tup (pv 0) pe_int (fun _ _ => rfl)) (pe_callB (Ow.call_len (E := E0) T.aHLen T.iHLen ((ok_hlen T).raw T.b_hlen .nil) (hr.mono (by decide)) pass0) (by rfl) T.z_len (by decide +kernel) (pa_cons (pv 8) pa_nil)) (nomark _)) (pw_or1 (pt_cmpR op_lt (pe_ix ix_tup (pv 0) pe_int (fun _ _ => rfl)) pe_int (nomark _)))))))))
        (pss_one (ps_ret pe_bl))
        pss_nil)
      (pss_cons (ps_for PassesOwn.never rfl (pi_list (pv 7)) (pg_name (i := 9) sc_row_told.nd rfl (Or.inl rfl))
        (pss_cons (ps_set (i := 10) sc_row_told.nd rfl (Or.inl rfl) (pe_callN (ok_hidden T) (hr.mono (by decide)) (by rfl) T.g_hidden T.F_hidden.kp T.kb2_hidden pass0 (pa_cons (pe_lst (pa_cons (pv 9) pa_nil)) (pa_cons (pv 5) (pa_cons (pv 6) pa_nil))) (pk_cons (pv 3) (pk_cons (pv 4) pk_nil))))
        (pss_cons (ps_if (pt_cmpR op_ne (pe_cmpR op_in_seq (pe_ix ix_tup (pv 9) pe_int (fun _ _ => rfl)) (pe_ix ix_tup (pv 0) pe_int (fun _ _ => rfl)) rfl) (pe_and (pe_cmpR op_notN (pv 10) pe_non (nomark _)) (pe_one (pe_cmpR op_eq (pe_callB (Ow.call_len (E := E0) T.aHLen T.iHLen ((ok_hlen T).raw T.b_hlen .nil) (hr.mono (by decide)) pass0) (by rfl) T.z_len (by decide +kernel) (pa_cons (pv 10) pa_nil)) pe_int (nomark _)))) (nomark _))
          (pss_one (ps_ret pe_bl))
          pss_nil)
        (pss_one (ps_if (PW.pt (pw_and (pt_cmpR op_eq (pv 6) pe_str (nomark _)) (pw_and (pt_cmpR op_eq (pv 4) pe_int (nomark _)) (pw_and (pt_cmpR op_eq (pe_ix ix_tup (pv 9) pe_int (fun _ _ => rfl)) pe_str (nomark _)) (pw_and1 (pt_cmpR op_notIn_seq (pe_ix ix_tup (pv 9) pe_int (fun _ _ => rfl)) (pe_ix ix_tup (pv 0) pe_int (fun _ _ => rfl)) rfl))))))
          (pss_one (ps_ret pe_bl))
          pss_nil)))))
      (pss_cons (ps_if (PW.pt (pw_and (pt_cmpR op_eq (pv 6) pe_str (nomark _)) (pw_and (pt_cmpR op_eq (pv 4) pe_int (nomark _)) (pw_and1 (pt_cmpR op_notN (pe_ix ix_tup (pv 0) pe_int (fun _ _ => rfl)) pe_non (nomark _))))))
        (pss_one (ps_ret pe_bl))
        pss_nil)
      (pss_one (ps_ret (pe_cmpR (op_eqD hr.units) (pe_callTy call_list_of (by rfl) T.z_list (by decide +kernel) (pa_cons (pe_ix ix_tup (pv 0) pe_int (fun _ _ => rfl)) pa_nil)) (pe_lc (own := [("_law_box", 9)]) (g := gName 9) rfl sc_row_told.nd (pi_list (pv 7)) (blkOk_by (own := [("_law_box", 9)]) (N := nm_row_told) (sc := (defScope s_row_told)) (by decide +kernel)) (fun _ _ _ _ _ => pg_name (i := 9) sc_row_told.nd rfl (Or.inl rfl)) (fun _ _ _ _ _ => (pts_one (pt_cmpR (show OpR _ _ (rIn K false) from op_in_seq) (pe_ix (show IxR _ (rIxT K) from ix_tup) (pv 9) pe_int (fun _ _ => rfl)) (pe_ix (show IxR _ (rIxT K) from ix_tup) (pv 0) pe_int (fun _ _ => rfl)) rfl))) (fun _ _ _ _ _ => (pe_ix (show IxR _ (rIxT K) from ix_tup) (pv 9) pe_int (fun _ _ => rfl)))) (nomark _)))))))))))), ?_⟩
    refine ⟨_, rfl, _, rfl, p, _, (i : Int), _, rfl, rfl, hS, atI_nat hv0, w0, _, rfl, hw0, rfl, _, _, rfl, _, _, rfl, rfl, ?_⟩
    refine ⟨_, rfl, _, rfl, _, rfl, p, _, rfl, hS, fun a ha => ?_⟩
    have sa := same_new (o := .lst (cutV xs none (some (i : Int)))) ha
    have xa := upd_same (H := H) (a := a) (o := .lst (cutV xs none (some (i : Int))))
    refine ⟨_, rfl, _, rfl, _, _, rfl, rfl, _, rfl, p, _, rfl, Hf.keepL sa hS, fun b hb2 => ?_⟩
    have sb := same_new (o := .lst (cutV xs (some ((i : Int) + 1)) none)) hb2
    have xb := upd_same (H := upd H a (.lst (cutV xs none (some (i : Int))))) (a := b) (o := .lst (cutV xs (some ((i : Int) + 1)) none))
    have xa := sb _ _ xa
    refine ⟨a, b, _, _, rfl, rfl, xa, xb, ?_, fun o ho => ?_⟩
    · rw [cut_take, cut_drop, List.length_take, List.length_drop]
      have := hb.1
      exact Nat.le_of_lt (small1000 (by omega))
    rw [cut_take, cut_drop] at *
    have so := same_new (o := .lst (xs.take i ++ xs.drop (i + 1))) ho
    have xo := upd_same (H := upd (upd H a (.lst (xs.take i))) b (.lst (xs.drop (i + 1)))) (a := o) (o := .lst (xs.take i ++ xs.drop (i + 1)))
    have s0 := (sa.trans sb).trans so
    have hbo := (hb.k s0).cut i
    rw [← oc] at hbo
    have hq0 := sameT s0 hq
    have hu0 := sameT s0 hu
    generalize upd (upd (upd H a (.lst (xs.take i))) b (.lst (xs.drop (i + 1)))) o (.lst (xs.take i ++ xs.drop (i + 1))) = A at *
    generalize xs.take i ++ xs.drop (i + 1) = os at *
    refine ⟨_, rfl, _, _, _, _, true, rfl, .ty "tuple", tyT hq0, kit_ty (by decide +kernel), true, rfl, iteF ?_⟩
    refine ⟨_, rfl, q, _, rfl, .inr hq0, rfl, _, rfl, iteF ?_⟩
    refine ⟨_, rfl, _, rfl, q, _, rfl, hq0, fun z => absurd (show (2 : Nat) = 4 from z.2) (by decide), fun _ q1 hq1 => ?_⟩
    have s1 := same_new (o := .tup (cutV [.str (numS x.1), .str (srt x.2), oV (lenO (hidO x.1 x.2 n hh (othL bs x.1))), .ref u] none (some 2))) hq1
    have e1 := upd_same (H := A) (a := q1) (o := .tup (cutV [.str (numS x.1), .str (srt x.2), oV (lenO (hidO x.1 x.2 n hh (othL bs x.1))), .ref u] none (some 2)))
    refine ⟨_, rfl, _, rfl, by show 2 ≤ sizeLine; decide, fun q2 hq2 => ?_⟩
    have s2 := same_new (o := .tup [.str (numS x.1), .str (srt x.2)]) hq2
    have e2 := s2 _ _ e1
    refine ⟨bxD x, bxD x, .tup (SqT.of e2) (.cons (.str _) (.cons (.str _) .nil)), .tup (SqT.of upd_same) (.cons (.str _) (.cons (.str _) .nil)), (fine_bx GO.N).shaped (by decide), (fine_bx GO.N).shaped (by decide), _, rfl, ?_⟩
    rw [eqv_fine (fine_bx GO.N)]
    refine iteF ?_
    have s12 := s1.trans s2
    have s02 := s0.trans s12
    have hq2' := sameT s12 hq0
    have hu2' := sameT s12 hu0
    have xo2 := s12 _ _ xo
    have hbo2 := hbo.k s12
    generalize upd (upd A q1 _) q2 _ = A2 at *
    refine ⟨_, rfl, q, _, 3, _, rfl, rfl, hq2', atI_nat (j := 3) rfl, _, _, _, _, true, rfl, .ty "tuple", tyT hu2', kit_ty (by decide +kernel), true, rfl, iteF ?_⟩
    refine ⟨_, rfl, _, rfl, _, rfl, _, rfl, _, rfl, rfl, rfl, o, os, othL bs x.1, x.1, x.2, n, hh, rfl, SqL.of xo2, hbo2, GO, R, fun B v sB hv hN => ?_⟩
    have hqB := sameT sB hq2'
    have huB := sameT sB hu2'
    have xoB := sB _ _ xo2
    have hbB := hbo2.k sB
    have s0B := s02.trans sB
    refine ⟨_, rfl, rfl, _, rfl, q, _, 2, _, rfl, rfl, hqB, atI_nat (j := 2) rfl, rfl, rfl, _, rfl, iteN (by rw [hid_non hv]; simp) ?_⟩
    have hd := hid_non hv
    refine ⟨_, rfl, rfl, _, rfl, ?_⟩
    cases ho : hidO x.1 x.2 n hh (othL bs x.1) with
    | none =>
      rw [ho] at hd
      refine iteN (by rw [hd]; rfl) ?_
      refine ⟨_, rfl, o, rfl, ⟨_, SqL.of xoB⟩, ?_⟩
      refine for_list (xs := os) (fun j σ C => ∃ v9 v10, σ = [some (.ref q), some (.ref p), some (.int (i : Nat)), some (.int (n : Nat)), some (.int hh), some (.str (numS x.1)), some (.str (srt x.2)), some (.ref o), some v, v9, v10] ∧ Same B C) ⟨none, none, rfl, Same.refl _⟩ (fun j σ C _ hP => ?_) (fun j w σ C hw hP => ?_) (fun σ C hP => ?_)
      · obtain ⟨_, _, _, sC⟩ := hP
        exact SqL.of (sC _ _ xoB)
      · obtain ⟨v9, v10, rfl, sC⟩ := hP
        obtain ⟨y, hy, q9, rfl, hq9⟩ := hbB.2 j w hw
        have my := List.mem_of_getElem? hy
        have hq9 := sameT sC hq9
        refine ⟨_, rfl, by show 1 ≤ sizeLine; decide, fun f hf => ?_⟩
        have sf := same_new (o := .lst [.ref q9]) hf
        have xf := upd_same (H := C) (a := f) (o := .lst [V.ref q9])
        have hb9 : BxsAt K (upd C f (.lst [.ref q9])) [.ref q9] [y] := ⟨rfl, fun i w hw => by
          match i, hw with
          | 0, hw => exact ⟨y, rfl, q9, (Option.some.inj hw).symm, sameT sf hq9⟩
          | i + 1, hw => cases hw⟩
        refine ⟨_, rfl, _, rfl, _, rfl, _, rfl, rfl, rfl, f, [.ref q9], [y], x.1, x.2, n, hh, rfl, SqL.of xf, hb9, GO.one my, R, fun D w sD hw hN9 => ?_⟩
        have sCD := sf.trans sD
        have hq9D := sameT sCD hq9
        have hqD := sameT sCD (sameT sC hqB)
        have huD := sameT sCD (sameT sC huB)
        have hin : inV (.str (numS y.1)) ((wrD n hh bs x).al.map V.str) = oneH x.1 x.2 n hh y := (in_strs _ _).trans (mem_al GO.nd my)
        refine ⟨_, rfl, q9, _, 0, _, rfl, rfl, hq9D, atI_nat (j := 0) rfl, _, rfl, q, _, 3, _, rfl, rfl, hqD, atI_nat (j := 3) rfl, u, _, rfl, .inr huD, rfl, flat_strs _, ?_⟩
        rw [show inV (.str (numS y.1)) (((wrD n hh bs x).al).map V.str) = oneH x.1 x.2 n hh y from hin]
        have one : oneH x.1 x.2 n hh y = decide ((hidO x.1 x.2 n hh [y]).map List.length = some 1) := rfl
        cases ho9 : hidO x.1 x.2 n hh [y] with
        | none =>
          rw [ho9] at hw one
          have hw : w = .non := hw
          subst hw
          have one : oneH x.1 x.2 n hh y = false := one
          refine ⟨_, rfl, rfl, _, rfl, iteF ⟨rfl, _, rfl, iteN (by rw [one]; rfl) ?_⟩⟩
          refine ⟨_, rfl, rfl, _, rfl, ?_⟩
          rw [srt_shy]
          cases hx2 : x.2 with
          | false => exact iteF ⟨_, _, rfl, sC.trans sCD⟩
          | true =>
            refine iteT ⟨_, rfl, rfl, _, rfl, ite2 (fun c => ?_) (fun c => ?_)⟩
            · have c : hh = 2 := V.int.inj (of_decide_eq_true c)
              refine ⟨_, rfl, q9, _, 1, _, rfl, rfl, hq9D, atI_nat (j := 1) rfl, rfl, _, rfl, ?_⟩
              rw [srt_shy]
              cases hy2 : y.2 with
              | false => exact iteF ⟨_, _, rfl, sC.trans sCD⟩
              | true =>
                refine iteT ⟨_, rfl, q9, _, 0, _, rfl, rfl, hq9D, atI_nat (j := 0) rfl, _, rfl, q, _, 3, _, rfl, rfl, hqD, atI_nat (j := 3) rfl, u, _, rfl, .inr huD, rfl, flat_strs _, _, rfl, iteN ?_ ⟨_, _, rfl, sC.trans sCD⟩⟩
                rw [hin]
                subst c
                rw [hx2, one_shy hy2]
                rfl
            · exact ⟨_, _, rfl, sC.trans sCD⟩
        | some l9 =>
          have nl9 := hN9 l9 ho9
          rw [ho9] at hw one
          obtain ⟨p9, t9, ys9, rfl, hi9, ht9, hp9⟩ := hw
          obtain ⟨dx9, fs9, hpa9, _⟩ := id hi9.at'
          have el9 := hp9.1
          refine ⟨_, rfl, rfl, _, rfl, iteT ?_⟩
          refine ⟨_, rfl, p9, dx9, fs9, rfl, hpa9, p9, t9, ys9, rfl, len_at hi9 ht9, _, rfl, by omega, by omega, rfl, rfl, _, rfl, iteN ?_ ?_⟩
          · have e : decide (V.int ((ys9.length : Nat) : Int) = V.int 1) = oneH x.1 x.2 n hh y := by
              rw [one, el9]
              by_cases c : l9.length = 1
              · rw [decide_eq_true (by rw [c]; rfl), decide_eq_true (by show some l9.length = some 1; rw [c])]
              · rw [decide_eq_false fun z => c (by have := V.int.inj z; omega), show decide ((some l9).map List.length = some 1) = false from decide_eq_false fun z => c (Option.some.inj z)]
            rw [e]
            simp
          refine ⟨_, rfl, rfl, _, rfl, ?_⟩
          rw [srt_shy]
          cases hx2 : x.2 with
          | false => exact iteF ⟨_, _, rfl, sC.trans sCD⟩
          | true =>
            refine iteT ⟨_, rfl, rfl, _, rfl, ite2 (fun c => ?_) (fun c => ?_)⟩
            · have c : hh = 2 := V.int.inj (of_decide_eq_true c)
              refine ⟨_, rfl, q9, _, 1, _, rfl, rfl, hq9D, atI_nat (j := 1) rfl, rfl, _, rfl, ?_⟩
              rw [srt_shy]
              cases hy2 : y.2 with
              | false => exact iteF ⟨_, _, rfl, sC.trans sCD⟩
              | true =>
                refine iteT ⟨_, rfl, q9, _, 0, _, rfl, rfl, hq9D, atI_nat (j := 0) rfl, _, rfl, q, _, 3, _, rfl, rfl, hqD, atI_nat (j := 3) rfl, u, _, rfl, .inr huD, rfl, flat_strs _, _, rfl, iteN ?_ ⟨_, _, rfl, sC.trans sCD⟩⟩
                rw [hin]
                subst c
                rw [hx2, one_shy hy2]
                rfl
            · exact ⟨_, _, rfl, sC.trans sCD⟩
      · obtain ⟨v9, v10, rfl, sC⟩ := hP
        have hqC := sameT sC hqB
        have huC := sameT sC huB
        have xoC := sC _ _ xoB
        have hbC := hbB.k sC
        have s0C := s0B.trans sC
        refine ⟨_, rfl, rfl, _, rfl, ?_⟩
        rw [srt_shy]
        by_cases hx2 : x.2 = true
        · skip
          refine iteY hx2 ⟨_, rfl, rfl, _, rfl, ite2 (fun c => ?_) (fun c => ?_)⟩
          · have c : hh = 1 := V.int.inj (of_decide_eq_true c)
            refine ⟨_, rfl, q, _, 2, _, rfl, rfl, hqC, atI_nat (j := 2) rfl, rfl, _, rfl, iteN ?_ ?_⟩
            · have e : hidO x.1 x.2 n hh (othL bs x.1) = none := by
                unfold hidO shyP
                rw [if_pos hx2, if_pos c]
              first
                | (rw [e]; rfl)
                | (rw [ho] at e; first | cases e | rfl)
            refine ⟨_, rfl, q, _, 3, _, rfl, rfl, hqC, atI_nat (j := 3) rfl, u, _, rfl, .inr huC, fun l hl => ?_⟩
            have sl := same_new (o := .lst ((wrD n hh bs x).al.map V.str)) hl
            have xl := upd_same (H := C) (a := l) (o := .lst ((wrD n hh bs x).al.map V.str))
            have qL := sameT sl hqC
            have uL := sameT sl huC
            have oL := sl _ _ xoC
            have bL := hbC.k sl
            generalize upd C l (.lst ((wrD n hh bs x).al.map V.str)) = L at *
            refine ⟨_, rfl, o, rfl, ⟨_, SqL.of oL⟩, fun D hD => ?_⟩
            refine lc_it walk_list (fun j Z => Same L Z ∧ Z D = some (.lst ((((othL bs x.1).take j).filter (oneH x.1 x.2 n hh)).map fun y => V.str (numS y.1)))) ⟨same_new hD, upd_same⟩ (fun j Z _ h => SqL.of (h.1 _ _ oL)) (fun j w Z Z' hj hP hY => ?_) (fun Z hP => ?_)
            · obtain ⟨sZ, hL⟩ := hP
              obtain ⟨rfl, hw⟩ := hY
              obtain ⟨y, hy, q9, rfl, hq9⟩ := bL.2 j w hw
              have my := List.mem_of_getElem? hy
              have hq9 := sameT sZ hq9
              refine ⟨rfl, ?_⟩
              refine ⟨_, rfl, q9, _, 0, _, rfl, rfl, hq9, atI_nat (j := 0) rfl, _, rfl, q, _, 3, _, rfl, rfl, sameT sZ qL, atI_nat (j := 3) rfl, u, _, rfl, .inr (sameT sZ uL), rfl, flat_strs _, _, rfl, ?_⟩
              rw [show inV (.str (numS y.1)) ((wrD n hh bs x).al.map V.str) = oneH x.1 x.2 n hh y from (in_strs _ _).trans (mem_al GO.nd my), filb_succ _ hy]
              refine ite2 (fun c => ?_) (fun c => ?_)
              · have c : oneH x.1 x.2 n hh y = true := c
                rw [if_pos c]
                have fl := List.length_filter_le (oneH x.1 x.2 n hh) ((othL bs x.1).take j)
                have gl := GO.len
                rw [List.length_take] at fl
                refine ⟨_, rfl, q9, _, 0, _, rfl, rfl, hq9, atI_nat (j := 0) rfl, _, hL, by rw [List.length_map]; exact small1000 (by omega), same_mut sZ hD, ?_⟩
                rw [upd_same, List.map_append]
                rfl
              · have c : ¬ oneH x.1 x.2 n hh y = true := c
                rw [if_neg c, List.append_nil]
                exact ⟨sZ, hL⟩
            · obtain ⟨sZ, hL⟩ := hP
              rw [bL.1, List.take_of_length_le (Nat.le_refl _)] at hL
              have hL : Z D = some (.lst ((wrD n hh bs x).al.map V.str)) := by
                show Z D = some (.lst ((((othL bs x.1).filter (oneH x.1 x.2 n hh)).map fun y => numS y.1).map V.str))
                rw [List.map_map]
                exact hL
              have fl := fine_lst (fine_al (n := n) (h := hh) G mx)
              refine ⟨.list ((wrD n hh bs x).al.map PyData.str), .list ((wrD n hh bs x).al.map PyData.str), .lst (SqL.of (sZ _ _ xl)) (dp_strs _), .lst (SqL.of hL) (dp_strs _), fl.shaped (by decide), fl.shaped (by decide), ?_⟩
              rw [eqv_fine fl]
              exact k _ ((s0C.trans sl).trans sZ)
          · skip
            refine ⟨_, rfl, q, _, 3, _, rfl, rfl, hqC, atI_nat (j := 3) rfl, u, _, rfl, .inr huC, fun l hl => ?_⟩
            have sl := same_new (o := .lst ((wrD n hh bs x).al.map V.str)) hl
            have xl := upd_same (H := C) (a := l) (o := .lst ((wrD n hh bs x).al.map V.str))
            have qL := sameT sl hqC
            have uL := sameT sl huC
            have oL := sl _ _ xoC
            have bL := hbC.k sl
            generalize upd C l (.lst ((wrD n hh bs x).al.map V.str)) = L at *
            refine ⟨_, rfl, o, rfl, ⟨_, SqL.of oL⟩, fun D hD => ?_⟩
            refine lc_it walk_list (fun j Z => Same L Z ∧ Z D = some (.lst ((((othL bs x.1).take j).filter (oneH x.1 x.2 n hh)).map fun y => V.str (numS y.1)))) ⟨same_new hD, upd_same⟩ (fun j Z _ h => SqL.of (h.1 _ _ oL)) (fun j w Z Z' hj hP hY => ?_) (fun Z hP => ?_)
            · obtain ⟨sZ, hL⟩ := hP
              obtain ⟨rfl, hw⟩ := hY
              obtain ⟨y, hy, q9, rfl, hq9⟩ := bL.2 j w hw
              have my := List.mem_of_getElem? hy
              have hq9 := sameT sZ hq9
              refine ⟨rfl, ?_⟩
              refine ⟨_, rfl, q9, _, 0, _, rfl, rfl, hq9, atI_nat (j := 0) rfl, _, rfl, q, _, 3, _, rfl, rfl, sameT sZ qL, atI_nat (j := 3) rfl, u, _, rfl, .inr (sameT sZ uL), rfl, flat_strs _, _, rfl, ?_⟩
              rw [show inV (.str (numS y.1)) ((wrD n hh bs x).al.map V.str) = oneH x.1 x.2 n hh y from (in_strs _ _).trans (mem_al GO.nd my), filb_succ _ hy]
              refine ite2 (fun c => ?_) (fun c => ?_)
              · have c : oneH x.1 x.2 n hh y = true := c
                rw [if_pos c]
                have fl := List.length_filter_le (oneH x.1 x.2 n hh) ((othL bs x.1).take j)
                have gl := GO.len
                rw [List.length_take] at fl
                refine ⟨_, rfl, q9, _, 0, _, rfl, rfl, hq9, atI_nat (j := 0) rfl, _, hL, by rw [List.length_map]; exact small1000 (by omega), same_mut sZ hD, ?_⟩
                rw [upd_same, List.map_append]
                rfl
              · have c : ¬ oneH x.1 x.2 n hh y = true := c
                rw [if_neg c, List.append_nil]
                exact ⟨sZ, hL⟩
            · obtain ⟨sZ, hL⟩ := hP
              rw [bL.1, List.take_of_length_le (Nat.le_refl _)] at hL
              have hL : Z D = some (.lst ((wrD n hh bs x).al.map V.str)) := by
                show Z D = some (.lst ((((othL bs x.1).filter (oneH x.1 x.2 n hh)).map fun y => numS y.1).map V.str))
                rw [List.map_map]
                exact hL
              have fl := fine_lst (fine_al (n := n) (h := hh) G mx)
              refine ⟨.list ((wrD n hh bs x).al.map PyData.str), .list ((wrD n hh bs x).al.map PyData.str), .lst (SqL.of (sZ _ _ xl)) (dp_strs _), .lst (SqL.of hL) (dp_strs _), fl.shaped (by decide), fl.shaped (by decide), ?_⟩
              rw [eqv_fine fl]
              exact k _ ((s0C.trans sl).trans sZ)
        · skip
          refine iteN (Bool.eq_false_iff.mpr hx2) ?_
          refine ⟨_, rfl, q, _, 3, _, rfl, rfl, hqC, atI_nat (j := 3) rfl, u, _, rfl, .inr huC, fun l hl => ?_⟩
          have sl := same_new (o := .lst ((wrD n hh bs x).al.map V.str)) hl
          have xl := upd_same (H := C) (a := l) (o := .lst ((wrD n hh bs x).al.map V.str))
          have qL := sameT sl hqC
          have uL := sameT sl huC
          have oL := sl _ _ xoC
          have bL := hbC.k sl
          generalize upd C l (.lst ((wrD n hh bs x).al.map V.str)) = L at *
          refine ⟨_, rfl, o, rfl, ⟨_, SqL.of oL⟩, fun D hD => ?_⟩
          refine lc_it walk_list (fun j Z => Same L Z ∧ Z D = some (.lst ((((othL bs x.1).take j).filter (oneH x.1 x.2 n hh)).map fun y => V.str (numS y.1)))) ⟨same_new hD, upd_same⟩ (fun j Z _ h => SqL.of (h.1 _ _ oL)) (fun j w Z Z' hj hP hY => ?_) (fun Z hP => ?_)
          · obtain ⟨sZ, hL⟩ := hP
            obtain ⟨rfl, hw⟩ := hY
            obtain ⟨y, hy, q9, rfl, hq9⟩ := bL.2 j w hw
            have my := List.mem_of_getElem? hy
            have hq9 := sameT sZ hq9
            refine ⟨rfl, ?_⟩
            refine ⟨_, rfl, q9, _, 0, _, rfl, rfl, hq9, atI_nat (j := 0) rfl, _, rfl, q, _, 3, _, rfl, rfl, sameT sZ qL, atI_nat (j := 3) rfl, u, _, rfl, .inr (sameT sZ uL), rfl, flat_strs _, _, rfl, ?_⟩
            rw [show inV (.str (numS y.1)) ((wrD n hh bs x).al.map V.str) = oneH x.1 x.2 n hh y from (in_strs _ _).trans (mem_al GO.nd my), filb_succ _ hy]
            refine ite2 (fun c => ?_) (fun c => ?_)
            · have c : oneH x.1 x.2 n hh y = true := c
              rw [if_pos c]
              have fl := List.length_filter_le (oneH x.1 x.2 n hh) ((othL bs x.1).take j)
              have gl := GO.len
              rw [List.length_take] at fl
              refine ⟨_, rfl, q9, _, 0, _, rfl, rfl, hq9, atI_nat (j := 0) rfl, _, hL, by rw [List.length_map]; exact small1000 (by omega), same_mut sZ hD, ?_⟩
              rw [upd_same, List.map_append]
              rfl
            · have c : ¬ oneH x.1 x.2 n hh y = true := c
              rw [if_neg c, List.append_nil]
              exact ⟨sZ, hL⟩
          · obtain ⟨sZ, hL⟩ := hP
            rw [bL.1, List.take_of_length_le (Nat.le_refl _)] at hL
            have hL : Z D = some (.lst ((wrD n hh bs x).al.map V.str)) := by
              show Z D = some (.lst ((((othL bs x.1).filter (oneH x.1 x.2 n hh)).map fun y => numS y.1).map V.str))
              rw [List.map_map]
              exact hL
            have fl := fine_lst (fine_al (n := n) (h := hh) G mx)
            refine ⟨.list ((wrD n hh bs x).al.map PyData.str), .list ((wrD n hh bs x).al.map PyData.str), .lst (SqL.of (sZ _ _ xl)) (dp_strs _), .lst (SqL.of hL) (dp_strs _), fl.shaped (by decide), fl.shaped (by decide), ?_⟩
            rw [eqv_fine fl]
            exact k _ ((s0C.trans sl).trans sZ)
    | some l =>
      have nl := hN l ho
      rw [ho] at hv hqB
      obtain ⟨p7, t7, ys7, rfl, hi7, ht7, hp7⟩ := hv
      obtain ⟨dx7, fs7, hpa7, _⟩ := id hi7.at'
      have el7 := hp7.1
      refine iteT ?_
      refine ⟨_, rfl, q, _, 2, _, rfl, rfl, hqB, atI_nat (j := 2) rfl, ((l.length : Nat) : Int), rfl, _, rfl, iteF ?_⟩
      refine ⟨_, rfl, q, _, 2, _, rfl, rfl, hqB, atI_nat (j := 2) rfl, _, rfl, p7, dx7, fs7, rfl, hpa7, p7, t7, ys7, rfl, len_at hi7 ht7, _, rfl, by omega, by omega, rfl, _, rfl, iteN (by rw [el7]; show (!decide (V.int ((l.length : Nat) : Int) = V.int ((l.length : Nat) : Int))) = false; simp) ?_⟩
      refine ⟨_, rfl, q, _, 2, _, rfl, rfl, hqB, atI_nat (j := 2) rfl, ((l.length : Nat) : Int), 1, rfl, rfl, _, rfl, iteN (decide_eq_false (by omega)) ?_⟩
      refine ⟨_, rfl, o, rfl, ⟨_, SqL.of xoB⟩, ?_⟩
      refine for_list (xs := os) (fun j σ C => ∃ v9 v10, σ = [some (.ref q), some (.ref p), some (.int (i : Nat)), some (.int (n : Nat)), some (.int hh), some (.str (numS x.1)), some (.str (srt x.2)), some (.ref o), some (.ref p7), v9, v10] ∧ Same B C) ⟨none, none, rfl, Same.refl _⟩ (fun j σ C _ hP => ?_) (fun j w σ C hw hP => ?_) (fun σ C hP => ?_)
      · obtain ⟨_, _, _, sC⟩ := hP
        exact SqL.of (sC _ _ xoB)
      · obtain ⟨v9, v10, rfl, sC⟩ := hP
        obtain ⟨y, hy, q9, rfl, hq9⟩ := hbB.2 j w hw
        have my := List.mem_of_getElem? hy
        have hq9 := sameT sC hq9
        refine ⟨_, rfl, by show 1 ≤ sizeLine; decide, fun f hf => ?_⟩
        have sf := same_new (o := .lst [.ref q9]) hf
        have xf := upd_same (H := C) (a := f) (o := .lst [V.ref q9])
        have hb9 : BxsAt K (upd C f (.lst [.ref q9])) [.ref q9] [y] := ⟨rfl, fun i w hw => by
          match i, hw with
          | 0, hw => exact ⟨y, rfl, q9, (Option.some.inj hw).symm, sameT sf hq9⟩
          | i + 1, hw => cases hw⟩
        refine ⟨_, rfl, _, rfl, _, rfl, _, rfl, rfl, rfl, f, [.ref q9], [y], x.1, x.2, n, hh, rfl, SqL.of xf, hb9, GO.one my, R, fun D w sD hw hN9 => ?_⟩
        have sCD := sf.trans sD
        have hq9D := sameT sCD hq9
        have hqD := sameT sCD (sameT sC hqB)
        have huD := sameT sCD (sameT sC huB)
        have hin : inV (.str (numS y.1)) ((wrD n hh bs x).al.map V.str) = oneH x.1 x.2 n hh y := (in_strs _ _).trans (mem_al GO.nd my)
        refine ⟨_, rfl, q9, _, 0, _, rfl, rfl, hq9D, atI_nat (j := 0) rfl, _, rfl, q, _, 3, _, rfl, rfl, hqD, atI_nat (j := 3) rfl, u, _, rfl, .inr huD, rfl, flat_strs _, ?_⟩
        rw [show inV (.str (numS y.1)) (((wrD n hh bs x).al).map V.str) = oneH x.1 x.2 n hh y from hin]
        have one : oneH x.1 x.2 n hh y = decide ((hidO x.1 x.2 n hh [y]).map List.length = some 1) := rfl
        cases ho9 : hidO x.1 x.2 n hh [y] with
        | none =>
          rw [ho9] at hw one
          have hw : w = .non := hw
          subst hw
          have one : oneH x.1 x.2 n hh y = false := one
          refine ⟨_, rfl, rfl, _, rfl, iteF ⟨rfl, _, rfl, iteN (by rw [one]; rfl) ?_⟩⟩
          refine ⟨_, rfl, rfl, _, rfl, ?_⟩
          rw [srt_shy]
          cases hx2 : x.2 with
          | false => exact iteF ⟨_, _, rfl, sC.trans sCD⟩
          | true =>
            refine iteT ⟨_, rfl, rfl, _, rfl, ite2 (fun c => ?_) (fun c => ?_)⟩
            · have c : hh = 2 := V.int.inj (of_decide_eq_true c)
              refine ⟨_, rfl, q9, _, 1, _, rfl, rfl, hq9D, atI_nat (j := 1) rfl, rfl, _, rfl, ?_⟩
              rw [srt_shy]
              cases hy2 : y.2 with
              | false => exact iteF ⟨_, _, rfl, sC.trans sCD⟩
              | true =>
                refine iteT ⟨_, rfl, q9, _, 0, _, rfl, rfl, hq9D, atI_nat (j := 0) rfl, _, rfl, q, _, 3, _, rfl, rfl, hqD, atI_nat (j := 3) rfl, u, _, rfl, .inr huD, rfl, flat_strs _, _, rfl, iteN ?_ ⟨_, _, rfl, sC.trans sCD⟩⟩
                rw [hin]
                subst c
                rw [hx2, one_shy hy2]
                rfl
            · exact ⟨_, _, rfl, sC.trans sCD⟩
        | some l9 =>
          have nl9 := hN9 l9 ho9
          rw [ho9] at hw one
          obtain ⟨p9, t9, ys9, rfl, hi9, ht9, hp9⟩ := hw
          obtain ⟨dx9, fs9, hpa9, _⟩ := id hi9.at'
          have el9 := hp9.1
          refine ⟨_, rfl, rfl, _, rfl, iteT ?_⟩
          refine ⟨_, rfl, p9, dx9, fs9, rfl, hpa9, p9, t9, ys9, rfl, len_at hi9 ht9, _, rfl, by omega, by omega, rfl, rfl, _, rfl, iteN ?_ ?_⟩
          · have e : decide (V.int ((ys9.length : Nat) : Int) = V.int 1) = oneH x.1 x.2 n hh y := by
              rw [one, el9]
              by_cases c : l9.length = 1
              · rw [decide_eq_true (by rw [c]; rfl), decide_eq_true (by show some l9.length = some 1; rw [c])]
              · rw [decide_eq_false fun z => c (by have := V.int.inj z; omega), show decide ((some l9).map List.length = some 1) = false from decide_eq_false fun z => c (Option.some.inj z)]
            rw [e]
            simp
          refine ⟨_, rfl, rfl, _, rfl, ?_⟩
          rw [srt_shy]
          cases hx2 : x.2 with
          | false => exact iteF ⟨_, _, rfl, sC.trans sCD⟩
          | true =>
            refine iteT ⟨_, rfl, rfl, _, rfl, ite2 (fun c => ?_) (fun c => ?_)⟩
            · have c : hh = 2 := V.int.inj (of_decide_eq_true c)
              refine ⟨_, rfl, q9, _, 1, _, rfl, rfl, hq9D, atI_nat (j := 1) rfl, rfl, _, rfl, ?_⟩
              rw [srt_shy]
              cases hy2 : y.2 with
              | false => exact iteF ⟨_, _, rfl, sC.trans sCD⟩
              | true =>
                refine iteT ⟨_, rfl, q9, _, 0, _, rfl, rfl, hq9D, atI_nat (j := 0) rfl, _, rfl, q, _, 3, _, rfl, rfl, hqD, atI_nat (j := 3) rfl, u, _, rfl, .inr huD, rfl, flat_strs _, _, rfl, iteN ?_ ⟨_, _, rfl, sC.trans sCD⟩⟩
                rw [hin]
                subst c
                rw [hx2, one_shy hy2]
                rfl
            · exact ⟨_, _, rfl, sC.trans sCD⟩
      · obtain ⟨v9, v10, rfl, sC⟩ := hP
        have hqC := sameT sC hqB
        have huC := sameT sC huB
        have xoC := sC _ _ xoB
        have hbC := hbB.k sC
        have s0C := s0B.trans sC
        refine ⟨_, rfl, rfl, _, rfl, ?_⟩
        rw [srt_shy]
        by_cases hx2 : x.2 = true
        · skip
          refine iteY hx2 ⟨_, rfl, rfl, _, rfl, ite2 (fun c => ?_) (fun c => ?_)⟩
          · have c : hh = 1 := V.int.inj (of_decide_eq_true c)
            refine ⟨_, rfl, q, _, 2, _, rfl, rfl, hqC, atI_nat (j := 2) rfl, rfl, _, rfl, iteN ?_ ?_⟩
            · have e : hidO x.1 x.2 n hh (othL bs x.1) = none := by
                unfold hidO shyP
                rw [if_pos hx2, if_pos c]
              first
                | (rw [e]; rfl)
                | (rw [ho] at e; first | cases e | rfl)
            refine ⟨_, rfl, q, _, 3, _, rfl, rfl, hqC, atI_nat (j := 3) rfl, u, _, rfl, .inr huC, fun l hl => ?_⟩
            have sl := same_new (o := .lst ((wrD n hh bs x).al.map V.str)) hl
            have xl := upd_same (H := C) (a := l) (o := .lst ((wrD n hh bs x).al.map V.str))
            have qL := sameT sl hqC
            have uL := sameT sl huC
            have oL := sl _ _ xoC
            have bL := hbC.k sl
            generalize upd C l (.lst ((wrD n hh bs x).al.map V.str)) = L at *
            refine ⟨_, rfl, o, rfl, ⟨_, SqL.of oL⟩, fun D hD => ?_⟩
            refine lc_it walk_list (fun j Z => Same L Z ∧ Z D = some (.lst ((((othL bs x.1).take j).filter (oneH x.1 x.2 n hh)).map fun y => V.str (numS y.1)))) ⟨same_new hD, upd_same⟩ (fun j Z _ h => SqL.of (h.1 _ _ oL)) (fun j w Z Z' hj hP hY => ?_) (fun Z hP => ?_)
            · obtain ⟨sZ, hL⟩ := hP
              obtain ⟨rfl, hw⟩ := hY
              obtain ⟨y, hy, q9, rfl, hq9⟩ := bL.2 j w hw
              have my := List.mem_of_getElem? hy
              have hq9 := sameT sZ hq9
              refine ⟨rfl, ?_⟩
              refine ⟨_, rfl, q9, _, 0, _, rfl, rfl, hq9, atI_nat (j := 0) rfl, _, rfl, q, _, 3, _, rfl, rfl, sameT sZ qL, atI_nat (j := 3) rfl, u, _, rfl, .inr (sameT sZ uL), rfl, flat_strs _, _, rfl, ?_⟩
              rw [show inV (.str (numS y.1)) ((wrD n hh bs x).al.map V.str) = oneH x.1 x.2 n hh y from (in_strs _ _).trans (mem_al GO.nd my), filb_succ _ hy]
              refine ite2 (fun c => ?_) (fun c => ?_)
              · have c : oneH x.1 x.2 n hh y = true := c
                rw [if_pos c]
                have fl := List.length_filter_le (oneH x.1 x.2 n hh) ((othL bs x.1).take j)
                have gl := GO.len
                rw [List.length_take] at fl
                refine ⟨_, rfl, q9, _, 0, _, rfl, rfl, hq9, atI_nat (j := 0) rfl, _, hL, by rw [List.length_map]; exact small1000 (by omega), same_mut sZ hD, ?_⟩
                rw [upd_same, List.map_append]
                rfl
              · have c : ¬ oneH x.1 x.2 n hh y = true := c
                rw [if_neg c, List.append_nil]
                exact ⟨sZ, hL⟩
            · obtain ⟨sZ, hL⟩ := hP
              rw [bL.1, List.take_of_length_le (Nat.le_refl _)] at hL
              have hL : Z D = some (.lst ((wrD n hh bs x).al.map V.str)) := by
                show Z D = some (.lst ((((othL bs x.1).filter (oneH x.1 x.2 n hh)).map fun y => numS y.1).map V.str))
                rw [List.map_map]
                exact hL
              have fl := fine_lst (fine_al (n := n) (h := hh) G mx)
              refine ⟨.list ((wrD n hh bs x).al.map PyData.str), .list ((wrD n hh bs x).al.map PyData.str), .lst (SqL.of (sZ _ _ xl)) (dp_strs _), .lst (SqL.of hL) (dp_strs _), fl.shaped (by decide), fl.shaped (by decide), ?_⟩
              rw [eqv_fine fl]
              exact k _ ((s0C.trans sl).trans sZ)
          · skip
            refine ⟨_, rfl, q, _, 3, _, rfl, rfl, hqC, atI_nat (j := 3) rfl, u, _, rfl, .inr huC, fun l hl => ?_⟩
            have sl := same_new (o := .lst ((wrD n hh bs x).al.map V.str)) hl
            have xl := upd_same (H := C) (a := l) (o := .lst ((wrD n hh bs x).al.map V.str))
            have qL := sameT sl hqC
            have uL := sameT sl huC
            have oL := sl _ _ xoC
            have bL := hbC.k sl
            generalize upd C l (.lst ((wrD n hh bs x).al.map V.str)) = L at *
            refine ⟨_, rfl, o, rfl, ⟨_, SqL.of oL⟩, fun D hD => ?_⟩
            refine lc_it walk_list (fun j Z => Same L Z ∧ Z D = some (.lst ((((othL bs x.1).take j).filter (oneH x.1 x.2 n hh)).map fun y => V.str (numS y.1)))) ⟨same_new hD, upd_same⟩ (fun j Z _ h => SqL.of (h.1 _ _ oL)) (fun j w Z Z' hj hP hY => ?_) (fun Z hP => ?_)
            · obtain ⟨sZ, hL⟩ := hP
              obtain ⟨rfl, hw⟩ := hY
              obtain ⟨y, hy, q9, rfl, hq9⟩ := bL.2 j w hw
              have my := List.mem_of_getElem? hy
              have hq9 := sameT sZ hq9
              refine ⟨rfl, ?_⟩
              refine ⟨_, rfl, q9, _, 0, _, rfl, rfl, hq9, atI_nat (j := 0) rfl, _, rfl, q, _, 3, _, rfl, rfl, sameT sZ qL, atI_nat (j := 3) rfl, u, _, rfl, .inr (sameT sZ uL), rfl, flat_strs _, _, rfl, ?_⟩
              rw [show inV (.str (numS y.1)) ((wrD n hh bs x).al.map V.str) = oneH x.1 x.2 n hh y from (in_strs _ _).trans (mem_al GO.nd my), filb_succ _ hy]
              refine ite2 (fun c => ?_) (fun c => ?_)
              · have c : oneH x.1 x.2 n hh y = true := c
                rw [if_pos c]
                have fl := List.length_filter_le (oneH x.1 x.2 n hh) ((othL bs x.1).take j)
                have gl := GO.len
                rw [List.length_take] at fl
                refine ⟨_, rfl, q9, _, 0, _, rfl, rfl, hq9, atI_nat (j := 0) rfl, _, hL, by rw [List.length_map]; exact small1000 (by omega), same_mut sZ hD, ?_⟩
                rw [upd_same, List.map_append]
                rfl
              · have c : ¬ oneH x.1 x.2 n hh y = true := c
                rw [if_neg c, List.append_nil]
                exact ⟨sZ, hL⟩
            · obtain ⟨sZ, hL⟩ := hP
              rw [bL.1, List.take_of_length_le (Nat.le_refl _)] at hL
              have hL : Z D = some (.lst ((wrD n hh bs x).al.map V.str)) := by
                show Z D = some (.lst ((((othL bs x.1).filter (oneH x.1 x.2 n hh)).map fun y => numS y.1).map V.str))
                rw [List.map_map]
                exact hL
              have fl := fine_lst (fine_al (n := n) (h := hh) G mx)
              refine ⟨.list ((wrD n hh bs x).al.map PyData.str), .list ((wrD n hh bs x).al.map PyData.str), .lst (SqL.of (sZ _ _ xl)) (dp_strs _), .lst (SqL.of hL) (dp_strs _), fl.shaped (by decide), fl.shaped (by decide), ?_⟩
              rw [eqv_fine fl]
              exact k _ ((s0C.trans sl).trans sZ)

        · skip
          refine iteN (Bool.eq_false_iff.mpr hx2) ?_
          refine ⟨_, rfl, q, _, 3, _, rfl, rfl, hqC, atI_nat (j := 3) rfl, u, _, rfl, .inr huC, fun l hl => ?_⟩
          have sl := same_new (o := .lst ((wrD n hh bs x).al.map V.str)) hl
          have xl := upd_same (H := C) (a := l) (o := .lst ((wrD n hh bs x).al.map V.str))
          have qL := sameT sl hqC
          have uL := sameT sl huC
          have oL := sl _ _ xoC
          have bL := hbC.k sl
          generalize upd C l (.lst ((wrD n hh bs x).al.map V.str)) = L at *
          refine ⟨_, rfl, o, rfl, ⟨_, SqL.of oL⟩, fun D hD => ?_⟩
          refine lc_it walk_list (fun j Z => Same L Z ∧ Z D = some (.lst ((((othL bs x.1).take j).filter (oneH x.1 x.2 n hh)).map fun y => V.str (numS y.1)))) ⟨same_new hD, upd_same⟩ (fun j Z _ h => SqL.of (h.1 _ _ oL)) (fun j w Z Z' hj hP hY => ?_) (fun Z hP => ?_)
          · obtain ⟨sZ, hL⟩ := hP
            obtain ⟨rfl, hw⟩ := hY
            obtain ⟨y, hy, q9, rfl, hq9⟩ := bL.2 j w hw
            have my := List.mem_of_getElem? hy
            have hq9 := sameT sZ hq9
            refine ⟨rfl, ?_⟩
            refine ⟨_, rfl, q9, _, 0, _, rfl, rfl, hq9, atI_nat (j := 0) rfl, _, rfl, q, _, 3, _, rfl, rfl, sameT sZ qL, atI_nat (j := 3) rfl, u, _, rfl, .inr (sameT sZ uL), rfl, flat_strs _, _, rfl, ?_⟩
            rw [show inV (.str (numS y.1)) ((wrD n hh bs x).al.map V.str) = oneH x.1 x.2 n hh y from (in_strs _ _).trans (mem_al GO.nd my), filb_succ _ hy]
            refine ite2 (fun c => ?_) (fun c => ?_)
            · have c : oneH x.1 x.2 n hh y = true := c
              rw [if_pos c]
              have fl := List.length_filter_le (oneH x.1 x.2 n hh) ((othL bs x.1).take j)
              have gl := GO.len
              rw [List.length_take] at fl
              refine ⟨_, rfl, q9, _, 0, _, rfl, rfl, hq9, atI_nat (j := 0) rfl, _, hL, by rw [List.length_map]; exact small1000 (by omega), same_mut sZ hD, ?_⟩
              rw [upd_same, List.map_append]
              rfl
            · have c : ¬ oneH x.1 x.2 n hh y = true := c
              rw [if_neg c, List.append_nil]
              exact ⟨sZ, hL⟩
          · obtain ⟨sZ, hL⟩ := hP
            rw [bL.1, List.take_of_length_le (Nat.le_refl _)] at hL
            have hL : Z D = some (.lst ((wrD n hh bs x).al.map V.str)) := by
              show Z D = some (.lst ((((othL bs x.1).filter (oneH x.1 x.2 n hh)).map fun y => numS y.1).map V.str))
              rw [List.map_map]
              exact hL
            have fl := fine_lst (fine_al (n := n) (h := hh) G mx)
            refine ⟨.list ((wrD n hh bs x).al.map PyData.str), .list ((wrD n hh bs x).al.map PyData.str), .lst (SqL.of (sZ _ _ xl)) (dp_strs _), .lst (SqL.of hL) (dp_strs _), fl.shaped (by decide), fl.shaped (by decide), ?_⟩
            rw [eqv_fine fl]
            exact k _ ((s0C.trans sl).trans sZ)end
end K47

namespace K47
open PySem L2 Wm TL Dv
section
variable {P : Program} {w : World} {K : PySem.W.Frag} {mg : Str → Option Value} {base : Heap}
@[irreducible] def rLh (K : PySem.W.Frag) (C : Addr) : List V → Hp → VK → Prop := Li.rListIt K C (fun vs H Q E => sp_hiter K C (vs ++ []) H Q E) (fun vs H Q E => sp_hlen K C (vs ++ []) H Q E) E0 E0
theorem rLh_of {X : Cx} {C : Addr} (h : CallR X (.type "list") (Li.rListIt X.K C (fun vs H Q E => sp_hiter X.K C (vs ++ []) H Q E) (fun vs H Q E => sp_hlen X.K C (vs ++ []) H Q E) E0 E0)) : CallR X (.type "list") (rLh X.K C) := by
  unfold rLh
  exact h
/-- list(hiding) -/
theorem lst_h {C : Addr} {H : Hp} {p t : Addr} {zs : List V} {Q : VK} (sA : hitAt K C p t zs H) (few : zs.length < 1000) (k : ∀ u, H u = none → Q (.ref u) (upd H u (.lst zs))) :
    rLh K C [.ref p] H Q := by
  unfold rLh
  obtain ⟨dx, fs, hp, l1, ht⟩ := id sA
  refine ⟨p, dx, fs, rfl, hp, fun u2 hu2 => ?_⟩
  have s2 := same_new (o := .lst []) hu2
  refine ⟨p, t, zs, rfl, ⟨dx, fs, s2 _ _ hp, l1, sameT s2 ht⟩, fun it hit young => ?_⟩
  have s3 := s2.trans (same_new (o := Li.TiO t it) hit)
  refine ⟨it, t, _, rfl, upd_same, young u2 _ upd_same, sameT s3 ht, by omega, same_new hit _ _ upd_same, s3 _ _ hp, ?_⟩
  refine ⟨p, t, zs, rfl, ⟨dx, fs, s3 _ _ hp, l1, sameT s3 ht⟩, _, rfl, by omega, by omega, rfl, ?_⟩
  rw [ItX.dropH_upd hit, upd_upd]
  exact k u2 hu2
theorem ins_ty {C : Addr} (cl : Cls K C) (isi : SlX.SIsi K C) {H : Hp} {p dx : Addr} {fs : List (Str × V)} (hp : H p = some (.ins C dx fs)) : TyX K H (.ref p) (.ref C) := .base (.ins hp cl isi.ca isi.cn isi.ct isi.cm)
/-! every pull is by a number -/
def NumT (w : Str) : Prop := ∃ es, Num es ∧ w = numS es
theorem pp_num {o : Option Rw} {L s h : Int} {k : Nat} (ho : ∀ r, o = some r → NumT r.w) : ∀ p ∈ ppO o L s k h, NumT p.2 := fun p m => by
  cases o with
  | none => cases m
  | some r =>
    obtain ⟨j, _, rfl⟩ := List.mem_map.mp (show p ∈ ppL r.w r.c L s k h from m)
    exact ho r rfl
theorem tab_num {ds : List Nat} {n : Nat} {bs : List Bx} (bN : ∀ x ∈ bs, Num x.1) {b : Bool} {r : Rw} (h : bestR (tabL ds n bs) b = some r) : NumT r.w := by
  obtain ⟨x, mx, rfl⟩ := List.mem_map.mp (best_in h).1
  exact ⟨x.1, bN x mx, rfl⟩
theorem beh_num {L n h : Int} {rs : List Rw} {l : List Pul} (hr : ∀ b r, bestR rs b = some r → NumT r.w) (e : behP L n h rs = some l) : ∀ p ∈ l, NumT p.2 := by
  unfold behP at e
  cases hb : behind (cO rs false) (cO rs true) n h with
  | none => rw [hb] at e; cases e
  | some k =>
    cases ht : bestR rs true with
    | none => rw [hb, ht] at e; cases e
    | some r =>
      rw [hb, ht] at e
      have e := Option.some.inj e
      subst e
      intro p m
      rcases List.mem_cons.mp m with rfl | m
      · exact hr true r ht
      · exact pp_num (fun r e => hr false r e) p m
theorem plain_num {L n h : Int} {rs : List Rw} {l : List Pul} (hr : ∀ b r, bestR rs b = some r → NumT r.w) (e : plainP L n h rs = some l) : ∀ p ∈ l, NumT p.2 := by
  unfold plainP at e
  cases ha : alone (cO rs false) n h with
  | none => rw [ha] at e; exact beh_num hr e
  | some a =>
    rw [ha] at e
    have e : (if leO a (behind (cO rs false) (cO rs true) n h) = true then some (ppO (bestR rs false) L 0 a.toNat h) else behP L n h rs) = some l := e
    by_cases g : leO a (behind (cO rs false) (cO rs true) n h) = true
    · rw [if_pos g] at e
      have e := Option.some.inj e
      subst e
      exact pp_num fun r e => hr false r e
    · rw [if_neg g] at e
      exact beh_num hr e
theorem hid_num {ds : List Nat} {b : Bool} {n : Nat} {h : Int} {bs : List Bx} {l : List Pul} (bN : ∀ x ∈ bs, Num x.1) (e : hidO ds b n h bs = some l) : ∀ p ∈ l, NumT p.2 := by
  unfold hidO at e
  cases b with
  | false =>
    rw [if_neg (by decide)] at e
    exact plain_num (fun b r hr => tab_num bN hr) e
  | true =>
    rw [if_pos rfl] at e
    unfold shyP at e
    by_cases g : h = 1
    · rw [if_pos g] at e; cases e
    · rw [if_neg g] at e
      match bs, bN, e with
      | [], _, e => cases e
      | x :: bs, bN, e =>
        have e : (match (x :: bs).filter (fun z : Bx => z.2) with
          | y :: _ => some [(1, numS y.1)]
          | [] => some ((List.range (n - 2 + 1)).map fun i => (atF (sLn ds) ((n : Int) * sLn x.1) i, numS x.1))) = some l := e
        cases hf : (x :: bs).filter (fun z : Bx => z.2) with
        | nil =>
          rw [hf] at e
          have e := Option.some.inj e
          subst e
          intro p m
          obtain ⟨j, _, rfl⟩ := List.mem_map.mp m
          exact ⟨x.1, bN x List.mem_cons_self, rfl⟩
        | cons y ys =>
          rw [hf] at e
          have e := Option.some.inj e
          subst e
          intro p m
          rw [List.mem_singleton.mp m]
          have my : y ∈ (x :: bs).filter (fun z : Bx => z.2) := by rw [hf]; exact List.mem_cons_self
          exact ⟨y.1, bN y (List.mem_filter.mp my).1, rfl⟩
/-! pulls and rows as data -/
def pulD (p : Pul) : PyData := .tuple [.int p.1, .str p.2]
theorem fine_nt {n : Nat} {w : Str} (h : NumT w) : Fine n (.str w) := by
  obtain ⟨es, N, rfl⟩ := h
  exact fine_numN N
theorem fine_pul {p : Pul} (h : NumT p.2) : Fine 1 (pulD p) := fine_tup (n := 0) fun d m => by
  rcases List.mem_cons.mp m with rfl | m
  · exact fine_int _
  · rw [List.mem_singleton.mp m]; exact fine_nt h
theorem dp_puls {H : Hp} : ∀ {xs : List V} {l : List Pul}, PulS K H xs l → DpAll K H xs (l.map pulD)
  | [], [], _ => .nil
  | [], b :: bs, h => absurd h.1 (by simp)
  | v :: xs, [], h => absurd h.1 (by simp)
  | v :: xs, b :: bs, h => by
    obtain ⟨x, q, hx, rfl, hq⟩ := h.2 0 v rfl
    have e : b = x := Option.some.inj hx
    subst e
    exact .cons (.tup hq (.cons (.int _) (.cons (.str _) .nil))) (dp_puls ⟨by simpa using h.1, fun i w hw => h.2 (i + 1) w (by simpa using hw)⟩)
def oD : Option Int → PyData
  | none => .none
  | some i => .int i
def wrDt (r : Wr) : PyData := .tuple [.str (numS r.d), .str (srt r.b), oD r.c, .tuple (r.al.map PyData.str)]
theorem dp_o {H : Hp} (o : Option Int) : Dp K H (oV o) (oD o) := by
  cases o with
  | none => exact .non
  | some i => exact .int i
theorem dp_wr {H : Hp} {v : V} {r : Wr} (h : WrAt K H v r) : Dp K H v (wrDt r) := by
  obtain ⟨q, u, rfl, hq, hu⟩ := h
  exact .tup hq (.cons (.str _) (.cons (.str _) (.cons (dp_o _) (.cons (.tup hu (dp_strs _)) .nil))))
theorem dp_wrs {H : Hp} : ∀ {xs : List V} {rs : List Wr}, WrsAt K H xs rs → DpAll K H xs (rs.map wrDt)
  | [], [], _ => .nil
  | [], b :: bs, h => absurd h.1 (by simp)
  | v :: xs, [], h => absurd h.1 (by simp)
  | v :: xs, b :: bs, h => by
    obtain ⟨x, hx, hw⟩ := h.2 0 v rfl
    have e : b = x := Option.some.inj hx
    subst e
    exact .cons (dp_wr hw) (dp_wrs ⟨by simpa using h.1, fun i w hw => h.2 (i + 1) w (by simpa using hw)⟩)
theorem fine_non {n : Nat} : Fine n .none := ⟨by simp [PyData.canLay0], by simp [PyData.depth]⟩
theorem fine_up {n m : Nat} {d : PyData} (h : Fine n d) (l : n ≤ m) : Fine m d := ⟨h.1, Nat.le_trans h.2 l⟩
theorem fine_wr {n : Nat} {h : Int} {bs : List Bx} {x : Bx} (G : Page bs) (m : x ∈ bs) : Fine 2 (wrDt (wrD n h bs x)) := fine_tup (n := 1) fun d md => by
  rcases List.mem_cons.mp md with rfl | md
  · exact fine_numN (G.num x m)
  rcases List.mem_cons.mp md with rfl | md
  · exact fine_srt _
  rcases List.mem_cons.mp md with rfl | md
  · show Fine 1 (oD (lenO (hidO x.1 x.2 n h (othL bs x.1))))
    cases lenO (hidO x.1 x.2 n h (othL bs x.1)) with
    | none => exact fine_non
    | some i => exact fine_int i
  · rw [List.mem_singleton.mp md]
    exact fine_tup (n := 0) (fine_al G m)
/-! the signs of a line -/
def Low (x : Str) : Prop := ∀ c ∈ tl x, c < 0x110000
theorem Low.app {x y : Str} (a : Low x) (b : Low y) : Low (x ++ y) := fun c m => by
  rw [tl_append] at m
  rcases List.mem_append.mp m with m | m
  · exact a c m
  · exact b c m
theorem low_txt {r : Bool} {x : Str} {w : Nat} (h : Low x) : Low (Fs.txt r x w) := by
  have l (a b : Nat) : Low (Builtin.Str.padded x a b 32) := fun c m => by
    have m : c ∈ ((Array.replicate a 32 ++ x.cps ++ Array.replicate b 32).toList) := m
    rw [Array.toList_append, Array.toList_append, Array.toList_replicate, Array.toList_replicate] at m
    rcases List.mem_append.mp m with m | m
    · rcases List.mem_append.mp m with m | m
      · rw [(List.mem_replicate.mp m).2]; decide
      · exact h c m
    · rw [(List.mem_replicate.mp m).2]; decide
  unfold Fs.txt Txt.ljust Txt.rjust
  cases r
  · rw [if_neg (by decide)]
    split
    · exact h
    · exact l _ _
  · rw [if_pos rfl]
    split
    · exact h
    · exact l _ _
theorem low_num {ds : List Nat} (N : Num ds) : Low (numS ds) := fun c m => by
  obtain ⟨d, md, rfl⟩ := List.mem_map.mp (show c ∈ codes ds from m)
  have := N.dig d md
  omega
theorem low_lit {x : Str} (h : x.cps.all (· < 0x110000) = true) : Low x := fun c m => by
  rw [← Array.all_toList, List.all_eq_true] at h
  exact of_decide_eq_true (h c m)
theorem low_cT {o : Option Int} (h : ∀ i, o = some i → 0 ≤ i) : Low (cT o) := by
  cases o with
  | none => exact low_lit (by decide +kernel)
  | some i =>
    obtain ⟨k, rfl⟩ := Int.eq_ofNat_of_zero_le (h i rfl)
    intro c m
    have m : c ∈ tl (Str.ofString (toString ((k : Nat) : Int))) := m
    rw [tl_num] at m
    have := numL_digits k c m
    omega
theorem low_join {xs : List Str} (h : ∀ x ∈ xs, Low x) : Low (Txt.join "" xs) := fun c m => by
  rw [tl_join0] at m
  obtain ⟨l, ml, mc⟩ := List.mem_flatten.mp m
  obtain ⟨x, mx, rfl⟩ := List.mem_map.mp ml
  exact h x mx c mc
theorem low_line {r : Wr} (L : Lin r) (al : ∀ a ∈ r.al, Low a) : Low (lineT r) := by
  have sp : Low " " := low_lit (by decide +kernel)
  unfold lineT
  refine ((((((Low.app (fun c m => by cases m) (low_txt (low_num L.N))).app sp).app (low_txt (low_lit (by cases r.b <;> decide +kernel)))).app sp).app (low_txt (low_cT fun i e => (L.c i e).1))).app (low_join fun x mx => ?_))
  obtain ⟨a, ma, rfl⟩ := List.mem_map.mp mx
  exact sp.app (al a ma)
theorem fine_low {n : Nat} {x : Str} (h : Low x) : Fine n (.str x) := fine_str (by
  rw [← Array.all_toList, List.all_eq_true]
  exact fun c m => decide_eq_true (h c m))
theorem fine_line {n : Nat} {h : Int} {bs : List Bx} {x : Bx} {k : Nat} (G : Page bs) (m : x ∈ bs) (hN : PulN (hidO x.1 x.2 n h (othL bs x.1))) : Fine k (.str (lineT (wrD n h bs x))) :=
  fine_low (low_line (lin_of G m hN) fun a ma => by
    obtain ⟨y, my, rfl⟩ := List.mem_map.mp ma
    exact low_num ((G.oth m).num y (List.mem_filter.mp my).1))
theorem alk_if {c : Prop} [Decidable c] {σ : L2.St} {H : Hp} {Q : VK} {b : Addr} {n m : Nat} (hs : σ[1]? = some (some (.ref b))) (hc : c ↔ n = 1) (n1 : 1 ≤ n) (bag : Bg H b m) (hm : m ≤ 900000)
    (rest : ∀ (h : Int) (A : Hp), 1 ≤ h → h ≤ 2 → h ≤ (n : Nat) → Bt b H A → Q (.int h) A) :
    if c then tC (V.int 1) σ H Q else tOp (rI0 fun i j => V.int (i + j)) (tC (V.int 1)) (tCall (sp_draw K) [] E0 (tCons (tVar 1) (tCons (tC (V.int 2)) tNil))) σ H Q := by
  split
  · exact rest 1 H (by decide) (by decide) (by omega) (Bt.refl _ _)
  · rename_i nc
    have : n ≠ 1 := fun z => nc (hc.mpr z)
    exact ⟨_, hs, b, m, 2, rfl, by decide, by decide, bag, by omega, fun A d d0 d2 _ but => ⟨_, _, rfl, rfl, rest (1 + d) A (by omega) (by omega) (by omega) but⟩⟩
theorem find_fil {α : Type} (f : α → Bool) : ∀ l : List α, l.find? f = (l.filter f).head?
  | [] => rfl
  | x :: l => by
    rw [List.find?_cons, List.filter_cons]
    cases f x with
    | true => rfl
    | false => exact find_fil f l
theorem vtake {vs : List V} {us : List Value} (h : Vals vs us) : Vals (vs.take 1) (us.take 1) := by
  cases h with
  | nil => exact .nil
  | cons a b => exact .cons a .nil
theorem vdrop {vs : List V} {us : List Value} (h : Vals vs us) : Vals (vs.drop 1) (us.drop 1) := by
  cases h with
  | nil => exact .nil
  | cons a b => exact b
end
end K47

namespace K47
open PySem L2 Wm TL Dv
section
variable {P : Program} {w : World} {K : PySem.W.Frag} {mg : Str → Option Value} {base : Heap}
theorem FirstAt.k {C : Addr} {H H' : Hp} {v : V} {n : Nat} {h : Int} {bs : List Bx} {o : Option Bx} (g : FirstAt K C H v n h bs o) (s : Same H H') : FirstAt K C H' v n h bs o := by
  cases o with
  | none => exact g
  | some x => exact HidAt.k g s
theorem ok_law (T : Txt K mg) : FnOk P w K mg base CX0 15 T.a_law T.d_law ["_law_script"] (sp_law K) := by
  refine T.F_law.ok sc_law (fun vs H Q E h => ?_) (fun cdv A outer s H vs Q E hr h => ?_)
  · obtain ⟨a, ns, rfl, _⟩ := h
    rfl
  · obtain ⟨a, zs, rfl, hS, hl, k⟩ := h
    refine ⟨_, (pss_cons (ps_set (i := 1) sc_law.nd rfl (Or.inl rfl) (pe_call (ok_open T) (hr.mono (by decide)) (by rfl) T.g_open T.F_open.kp T.b_open .nil pass0 (pa_cons (pv 0) pa_nil)))
      (pss_cons (ps_set (i := 2) sc_law.nd rfl (Or.inl rfl) (pe_call (ok_wire T) (hr.mono (by decide)) (by rfl) T.g_wire T.F_wire.kp T.b_wire .nil pass0 (pa_cons (pv 1) pa_nil)))
      (pss_cons (ps_set (i := 3) sc_law.nd rfl (Or.inl rfl) (pe_call (ok_sends T) (hr.mono (by decide)) (by rfl) T.g_sends T.F_sends.kp T.b_sends .nil pass0 (pa_cons (pv 1) pa_nil)))
      (pss_cons (ps_set (i := 4) sc_law.nd rfl (Or.inl rfl) (pe_ifExp (pt_cmpR op_eq (pv 3) pe_int (nomark _)) pe_int (pe_op op_add pe_int (pe_call (ok_draw T) (hr.mono (by decide)) (by rfl) T.g_draw T.F_draw.kp T.b_draw .nil pass0 (pa_cons (pv 1) (pa_cons pe_int pa_nil))))))
      (pss_cons (ps_set (i := 5) sc_law.nd rfl (Or.inl rfl) (pe_callN (ok_who_hides T) (hr.mono (by decide)) (by rfl) T.g_who_hides T.F_who_hides.kp T.kb2_who_hides pass0 (pa_cons (pe_callTy call_list_of (by rfl) T.z_list (by decide +kernel) (pa_cons (pv 2) pa_nil)) pa_nil) (pk_cons (pv 3) (pk_cons (pv 4) pk_nil))))
      (pss_cons (ps_if (PW.pt (pw_or (pt_not (pt_val (pe_callB call_isi (by rfl) T.z_isinstance (by decide +kernel) (pa_cons (pv 5) (pa_cons (pe_bltn (v := V.ty "tuple") (by rfl) T.z_tuple (by decide +kernel) rfl) pa_nil))))) (pw_or1 (pt_cmpR op_ne (pe_callB call_len_seq (by rfl) T.z_len PySem.boot_len (pa_cons (pv 5) pa_nil)) (pe_callB call_len_seq (by rfl) T.z_len PySem.boot_len (pa_cons (pv 2) pa_nil)) (nomark _)))))
        (pss_one (ps_ret pe_bl))
        pss_nil)
      (pss_cons (ps_for PassesOwn.never rfl (pi_range1 (by rfl) T.z_range (pa_cons (pe_callB call_len_seq (by rfl) T.z_len PySem.boot_len (pa_cons (pv 2) pa_nil)) pa_nil)) (pg_name (i := 6) sc_law.nd rfl (Or.inl rfl))
        (pss_one (ps_if (pt_not (pt_val (pe_call (ok_row_told T) (hr.mono (by decide)) (by rfl) T.g_row_told T.F_row_told.kp T.b_row_told .nil pass0 (pa_cons (pe_ix ix_tup (pv 5) (pv 6) (fun _ _ => rfl)) (pa_cons (pv 2) (pa_cons (pv 6) (pa_cons (pv 3) (pa_cons (pv 4) pa_nil))))))))
          (pss_one (ps_ret pe_bl))
          pss_nil)))
      (pss_cons (ps_set (i := 7) sc_law.nd rfl (Or.inl rfl) (pe_callN (ok_hiding_page T) (hr.mono (by decide)) (by rfl) T.g_hiding_page T.F_hiding_page.kp T.kb2_hiding_page pass0 (pa_cons (pv 2) pa_nil) (pk_cons (pv 3) (pk_cons (pv 4) pk_nil))))
      (pss_cons (ps_if (PW.pt (pw_or (pt_not (pt_val (pe_callB call_isi (by rfl) T.z_isinstance (by decide +kernel) (pa_cons (pv 7) (pa_cons (pe_bltn (v := V.ty "tuple") (by rfl) T.z_tuple (by decide +kernel) rfl) pa_nil))))) (pw_or1 (pt_cmpR (op_neD hr.units) (pe_callTy call_list_of (by rfl) T.z_list (by decide +kernel) (pa_cons (pv 7) pa_nil)) (pe_lc (own := [("_law_row", 8)]) (g := gName 8) (tt := tYes) rfl sc_law.nd (pi_tup (pv 5)) (blkOk_by (own := [("_law_row", 8)]) (N := nm_law) (sc := (defScope s_law)) (by decide +kernel)) (fun _ _ _ _ _ => pg_name (i := 8) sc_law.nd rfl (Or.inl rfl)) (fun _ _ _ _ _ => pts_nil) (fun _ _ _ _ _ => (pe_call (ok_line T) (hr.mono (by decide)) (by rfl) T.g_line T.F_line.kp T.b_line .nil pass0 (pa_cons (pv 8) pa_nil)))) (nomark _)))))
        (pss_one (ps_ret pe_bl))
        pss_nil)
      (pss_cons (ps_for PassesOwn.never rfl (pi_tup (pe_tup (pa_cons pe_int (pa_cons pe_int (pa_cons pe_int (pa_cons pe_int (pa_cons pe_int (pa_cons (pe_op op_pow pe_int pe_int) pa_nil)))))))) (pg_name (i := 9) sc_law.nd rfl (Or.inr rfl))
        (pss_cons (ps_set (i := 10) sc_law.nd rfl (Or.inr rfl) (pe_callN (ok_first_hidden T) (hr.mono (by decide)) (by rfl) T.g_first_hidden T.F_first_hidden.kp T.kb3_first_hidden pass0 (pa_cons (pv 2) pa_nil) (pk_cons (pv 3) (pk_cons (pv 4) (pk_cons (pv 9) pk_nil)))))
        (pss_cons (ps_setLc (i := 11) (own := [("_law_row", 8)]) (g := gName 8) rfl sc_law.nd rfl rfl (sw_true rfl rfl rfl (by decide +kernel)) (pi_tup (pv 5)) (blkOk_by (own := [("_law_row", 8)]) (N := nm_law) (sc := (defScope s_law)) (by decide +kernel)) (fun _ _ _ _ _ => pg_name (i := 8) sc_law.nd rfl (Or.inl rfl)) (fun _ _ _ _ _ => (pts_one (PW.pt (pw_and (pt_cmpR op_notN (pe_ix (show IxR _ (rIxT K) from ix_tup) (pv 8) pe_int (fun _ _ => rfl)) pe_non (nomark _)) (pw_and1 (pt_cmpR op_le (pe_ix (show IxR _ (rIxT K) from ix_tup) (pv 8) pe_int (fun _ _ => rfl)) (pv 9) (nomark _))))))) (fun _ _ _ _ _ => (pv 8)))
        (pss_one (ps_if (pt_cmpR (op_eqD hr.units) (pv 11) (pe_lst pa_nil) (nomark _))
          (pss_one (ps_if (pt_cmpR op_notN (pv 10) pe_non (nomark _))
            (pss_one (ps_ret pe_bl))
            pss_nil))
          (pss_one (ps_if (PW.pt (pw_or (pt_not (pt_val (pe_callB call_isi (by rfl) T.z_isinstance (by decide +kernel) (pa_cons (pv 10) (pa_cons (pe_glob (v := V.ref T.HC) rfl T.gHC rfl) pa_nil))))) (pw_or (pt_cmpR op_ne (pe_fld (pv 10) rfl) (pe_ix ix_tup (pe_ix ix_list (pv 11) pe_int (fun _ _ => rfl)) pe_int (fun _ _ => rfl)) (nomark _)) (pw_or (pt_cmpR op_ne (pe_fld (pv 10) rfl) (pe_ix ix_tup (pe_ix ix_list (pv 11) pe_int (fun _ _ => rfl)) pe_int (fun _ _ => rfl)) (nomark _)) (pw_or1 (pt_cmpR op_ne (pe_callB (Ow.call_len (E := E0) T.aHLen T.iHLen ((ok_hlen T).raw T.b_hlen .nil) (hr.mono (by decide)) pass0) (by rfl) T.z_len (by decide +kernel) (pa_cons (pv 10) pa_nil)) (pe_ix ix_tup (pe_ix ix_list (pv 11) pe_int (fun _ _ => rfl)) pe_int (fun _ _ => rfl)) (nomark _)))))))
            (pss_one (ps_ret pe_bl))
            (pss_cons (ps_setLc (i := 12) (own := [("_law_box", 13)]) (g := gName 13) rfl sc_law.nd rfl rfl (sw_true rfl rfl rfl (by decide +kernel)) (pi_list (pv 2)) (blkOk_by (own := [("_law_box", 13)]) (N := nm_law) (sc := (defScope s_law)) (by decide +kernel)) (fun _ _ _ _ _ => pg_name (i := 13) sc_law.nd rfl (Or.inl rfl)) (fun _ _ _ _ _ => (pts_one (pt_cmpR op_ne (pe_ix (show IxR _ (rIxT K) from ix_tup) (pv 13) pe_int (fun _ _ => rfl)) (show PE _ _ (tFld K (tVar 10) "number") from by exact pe_fld (pv 10) rfl) (nomark _)))) (fun _ _ _ _ _ => (pv 13)))
            (pss_one (ps_if (pt_cmpR (op_neD hr.units) (pe_callTy (rLh_of (Li.call_listIt (EI := E0) (EL := E0) T.aHIt T.iHIt T.aHLen T.iHLen ((ok_hiter T).raw T.b_hiter .nil) ((ok_hlen T).raw T.b_hlen .nil) (by rfl) (hr.mono (by decide)))) (by rfl) T.z_list (by decide +kernel) (pa_cons (pv 10) pa_nil)) (pe_callTy (rLh_of (Li.call_listIt (EI := E0) (EL := E0) T.aHIt T.iHIt T.aHLen T.iHLen ((ok_hiter T).raw T.b_hiter .nil) ((ok_hlen T).raw T.b_hlen .nil) (by rfl) (hr.mono (by decide)))) (by rfl) T.z_list (by decide +kernel) (pa_cons (pe_callN (ok_hidden T) (hr.mono (by decide)) (by rfl) T.g_hidden T.F_hidden.kp T.kb2_hidden pass0 (pa_cons (pv 12) (pa_cons (pe_fld (pv 10) rfl) (pa_cons (pe_fld (pv 10) rfl) pa_nil))) (pk_cons (pv 3) (pk_cons (pv 4) pk_nil))) pa_nil)) (nomark _))
              (pss_one (ps_ret pe_bl))
              pss_nil))))))))))
      (pss_cons (ps_if (PW.pt (pw_and (pt_cmpR op_eq (pv 4) pe_int (nomark _)) (pw_and1 (PW.pt (pw_or (pt_cmpR (op_neD hr.units) (pe_callN (ok_who_hides T) (hr.mono (by decide)) (by rfl) T.g_who_hides T.F_who_hides.kp T.kb1_who_hides pass0 (pa_cons (pe_callTy call_tuple_of (by rfl) T.z_tuple (by decide +kernel) (pa_cons (pv 2) pa_nil)) pa_nil) (pk_cons (pv 3) pk_nil)) (pv 5) (nomark _)) (pw_or1 (pt_cmpR (op_neD hr.units) (pe_callN (ok_hiding_page T) (hr.mono (by decide)) (by rfl) T.g_hiding_page T.F_hiding_page.kp T.kb1_hiding_page pass0 (pa_cons (pv 2) pa_nil) (pk_cons (pv 3) pk_nil)) (pv 7) (nomark _))))))))
        (pss_one (ps_ret pe_bl))
        pss_nil)
      (C8.pss_cut (ps_if (pt_cmpR op_eq (pv 4) pe_int (nomark _))
        (pss_cons (ps_asg (pe_tup (pa_cons (pe_callN (ok_first_hidden T) (hr.mono (by decide)) (by rfl) T.g_first_hidden T.F_first_hidden.kp T.kb2_first_hidden pass0 (pa_cons (pv 2) pa_nil) (pk_cons (pv 3) (pk_cons pe_int pk_nil))) (pa_cons (pe_callN (ok_first_hidden T) (hr.mono (by decide)) (by rfl) T.g_first_hidden T.F_first_hidden.kp T.kb3_first_hidden pass0 (pa_cons (pv 2) pa_nil) (pk_cons (pv 3) (pk_cons pe_int (pk_cons pe_int pk_nil)))) pa_nil))) (pg_tup rfl (pgs_cons (pg_name (i := 10) sc_law.nd rfl (Or.inr rfl)) (pgs_cons (pg_name (i := 14) sc_law.nd rfl (Or.inl rfl)) pgs_nil))))
        (pss_one (ps_if (PW.pt (pw_or (pt_cmpR op_ne (pe_cmpR op_isN (pv 10) pe_non (nomark _)) (pe_cmpR op_isN (pv 14) pe_non (nomark _)) (nomark _)) (pw_or1 (PW.pt (pw_and (pt_cmpR op_notN (pv 10) pe_non (nomark _)) (pw_and1 (pt_cmpR (op_neD hr.units) (pe_callTy (rLh_of (Li.call_listIt (EI := E0) (EL := E0) T.aHIt T.iHIt T.aHLen T.iHLen ((ok_hiter T).raw T.b_hiter .nil) ((ok_hlen T).raw T.b_hlen .nil) (by rfl) (hr.mono (by decide)))) (by rfl) T.z_list (by decide +kernel) (pa_cons (pv 10) pa_nil)) (pe_callTy (rLh_of (Li.call_listIt (EI := E0) (EL := E0) T.aHIt T.iHIt T.aHLen T.iHLen ((ok_hiter T).raw T.b_hiter .nil) ((ok_hlen T).raw T.b_hlen .nil) (by rfl) (hr.mono (by decide)))) (by rfl) T.z_list (by decide +kernel) (pa_cons (pv 14) pa_nil)) (nomark _))))))))
          (pss_one (ps_ret pe_bl))
          pss_nil)))
        pss_nil)
      (pss_one (ps_ret pe_bl)))))))))))))), ?_⟩
    refine ⟨_, rfl, a, zs, rfl, hS, hl, fun H1 b s1 bag1 => ?_⟩
    refine ⟨_, rfl, b, 0, rfl, bag1, by omega, fun H2 p xs bs np hp bx G l5 bag2 but2 => ?_⟩
    refine ⟨_, rfl, b, _, rfl, bag2, by omega, fun H3 n n1 n8 bag3 but3 => ?_⟩
    have hp3 := but3.keep _ _ np hp
    have bx3 := bx.bt bag2 but3
    refine ⟨_, rfl, rfl, _, rfl, alk_if (n := n) rfl ⟨fun c => by have := V.int.inj (of_decide_eq_true c); omega, fun c => decide_eq_true (by rw [c]; rfl)⟩ n1 bag3 (by omega) fun hh H4 h1 h2 hn but4 => ?_⟩
    have R : Rnd n hh := ⟨n1, n8, h1, h2, hn⟩
    have hp4 := but4.keep _ _ np hp3
    have bx4 := bx3.bt bag3 but4
    have g2 := G.l2
    refine ⟨_, rfl, p, xs, rfl, .inl (SqL.of hp4), fun l hl => ?_⟩
    have sl := same_new (o := .lst xs) hl
    have xl := upd_same (H := H4) (a := l) (o := .lst xs)
    have hp5 := sl _ _ hp4
    have bx5 := (bx4.k sl).at (K := K)
    generalize upd H4 l (.lst xs) = H5 at *
    refine ⟨_, rfl, _, rfl, rfl, rfl, l, false, xs, bs, n, hh, rfl, .lst (SqL.of xl), bx5, G, R, fun H6 t ys s6 f6 ht hW hN => ?_⟩
    have hp6 := s6 _ _ hp5
    have bx6 := bx5.k s6
    have ely : ys.length = bs.length := by rw [hW.1, List.length_map]
    have elx := bx6.1
    refine ⟨_, rfl, _, _, _, _, true, rfl, .ty "tuple", .base (.tup ht), kit_ty (by decide +kernel), true, rfl, iteF ?_⟩
    refine ⟨_, rfl, t, _, rfl, .inr (SqT.of ht), _, rfl, p, _, rfl, .inl (SqL.of hp6), rfl, _, rfl, iteN (by rw [ely, elx]; simp) ?_⟩
    refine ⟨_, rfl, p, _, rfl, .inl (SqL.of hp6), _, rfl, by omega, by omega, ?_⟩
    refine for_range (fun i σ A => ∃ v6, σ = [some (.ref a), some (.ref b), some (.ref p), some (.int (n : Nat)), some (.int hh), some (.ref t), v6, none, none, none, none, none, none, none, none] ∧ Same H6 A) ⟨none, rfl, Same.refl _⟩ (fun i σ A hi hP => ?_) (fun σ A hP => ?_)
    · obtain ⟨v6, rfl, sA⟩ := hP
      have hi : i < ys.length := by omega
      have hy : ys[i]? = some ys[i] := List.getElem?_eq_getElem hi
      obtain ⟨r, hr, hw⟩ := hW.2 i _ hy
      rw [List.getElem?_map] at hr
      obtain ⟨x, hx, rfl⟩ := Option.map_eq_some_iff.mp hr
      refine ⟨_, rfl, _, rfl, t, _, 0 + (i : Int), _, rfl, rfl, SqT.of (sA _ _ ht), by rw [Int.zero_add]; exact atI_nat hy, ?_⟩
      refine ⟨_, rfl, _, rfl, _, rfl, _, rfl, ys[i], p, xs, bs, i, n, hh, x, by rw [Int.zero_add]; rfl, hx, hw.k sA, SqL.of (sA _ _ hp6), bx6.k sA, G, R, fun B sB => ⟨_, rfl, iteF ⟨_, rfl, sA.trans sB⟩⟩⟩
    obtain ⟨v6, rfl, sA⟩ := hP
    have hp7 := sA _ _ hp6
    have ht7 := sA _ _ ht
    have bx7 := bx6.k sA
    have hW7 := hW.k sA
    refine ⟨_, rfl, _, rfl, _, rfl, rfl, rfl, p, false, xs, bs, n, hh, rfl, .lst (SqL.of hp7), bx7, G, R, fun H8 tp s8 f8 htp => ?_⟩
    have hp8 := s8 _ _ hp7
    have ht8 := s8 _ _ ht7
    have bx8 := bx7.k s8
    have hW8 := hW7.k s8
    refine ⟨_, rfl, _, _, _, _, true, rfl, .ty "tuple", .base (.tup htp), kit_ty (by decide +kernel), true, rfl, iteF ?_⟩
    refine ⟨_, rfl, tp, _, rfl, .inr (SqT.of htp), fun l2 hl2 => ?_⟩
    have sl2 := same_new (o := .lst ((bs.map fun x => lineT (wrD n hh bs x)).map V.str)) hl2
    have xl2 := upd_same (H := H8) (a := l2) (o := .lst ((bs.map fun x => lineT (wrD n hh bs x)).map V.str))
    have hp9 := sl2 _ _ hp8
    have ht9 := sl2 _ _ ht8
    have htp9 := sl2 _ _ htp
    have bx9 := bx8.k sl2
    have hW9 := hW8.k sl2
    generalize upd H8 l2 (.lst ((bs.map fun x => lineT (wrD n hh bs x)).map V.str)) = H9 at *
    refine ⟨_, rfl, t, rfl, ⟨_, SqT.of ht9⟩, fun D hD => ?_⟩
    refine Lm.lc_map (K := K) walk_tup (fun i y _ => ((bs.map fun x => lineT (wrD n hh bs x)).map V.str)[i]? = some y) (fun _ _ _ _ h _ => h) hD (by omega) (fun H' s => SqT.of (s _ _ ht9)) (fun i w H' hi hw sm Q2 Z q => ?_) (fun H10 zs2 s10 hz lz hR => ?_)
    · obtain ⟨r, hr, hwr⟩ := (hW9.k sm).2 i w hw
      rw [List.getElem?_map] at hr
      obtain ⟨x, hx, rfl⟩ := Option.map_eq_some_iff.mp hr
      have mx := List.mem_of_getElem? hx
      refine ⟨rfl, yesT ?_⟩
      exact ⟨_, rfl, w, wrD n hh bs x, rfl, hwr, lin_of G mx (hN x mx), fun B sB => q _ _ sB (by rw [List.getElem?_map, List.getElem?_map, hx]; rfl)⟩
    have ez : zs2 = (bs.map fun x => lineT (wrD n hh bs x)).map V.str := Lm.list_is (by rw [lz, List.length_map, List.length_map, ely]) hR
    rw [ez] at hz
    have fS : ∀ d ∈ (bs.map fun x => lineT (wrD n hh bs x)).map PyData.str, Fine 0 d := fun d md => by
      obtain ⟨s, ms, rfl⟩ := List.mem_map.mp md
      obtain ⟨x, mx, rfl⟩ := List.mem_map.mp ms
      exact fine_line G mx (hN x mx)
    refine ⟨.list ((bs.map fun x => lineT (wrD n hh bs x)).map PyData.str), .list ((bs.map fun x => lineT (wrD n hh bs x)).map PyData.str), .lst (SqL.of (s10 _ _ xl2)) (dp_strs _), .lst (SqL.of hz) (dp_strs _), (fine_lst fS).shaped (by decide), (fine_lst fS).shaped (by decide), _, rfl, ?_⟩
    rw [eqv_fine (fine_lst fS)]
    refine iteF ?_
    refine ⟨_, _, rfl, rfl, ⟨by decide, by decide, by decide⟩, by show 6 ≤ sizeLine; decide, fun u hu => ?_⟩
    have su := same_new (o := .tup [.int 0, .int 1, .int 2, .int 3, .int 4, .int (10 ^ (20 : Int).toNat)]) hu
    have xu := upd_same (H := H10) (a := u) (o := .tup [.int 0, .int 1, .int 2, .int 3, .int 4, .int (10 ^ (20 : Int).toNat)])
    have s11 := s10.trans su
    have hp11 := s11 _ _ hp9
    have ht11 := s11 _ _ ht9
    have htp11 := s11 _ _ htp9
    have bx11 := bx9.k s11
    have hW11 := hW9.k s11
    generalize upd H10 u (.tup [.int 0, .int 1, .int 2, .int 3, .int 4, .int (10 ^ (20 : Int).toNat)]) = H11 at *
    refine ⟨u, rfl, ⟨_, SqT.of xu⟩, ?_⟩
    refine for_tup (xs := [.int 0, .int 1, .int 2, .int 3, .int 4, .int (10 ^ (20 : Int).toNat)]) (fun i σ A => ∃ (v9 v10 v11 v12 : Option V), σ = [some (.ref a), some (.ref b), some (.ref p), some (.int (n : Nat)), some (.int hh), some (.ref t), v6, some (.ref tp), none, v9, v10, v11, v12, none, none] ∧ Same H11 A)
      ⟨none, none, none, none, rfl, Same.refl _⟩ (fun i σ A _ hP => ?_) (fun i y σ A hy hP => ?_) (fun σ A hP => ?_)
    · obtain ⟨_, _, _, _, _, sA⟩ := hP
      exact SqT.of (sA _ _ xu)
    · obtain ⟨v9, v10, v11, v12, rfl, sA⟩ := hP
      obtain ⟨m, rfl, m0⟩ : ∃ m : Int, y = .int m ∧ 0 ≤ m := by
        match i, hy with
        | 0, hy => exact ⟨0, (Option.some.inj hy).symm, by decide⟩
        | 1, hy => exact ⟨1, (Option.some.inj hy).symm, by decide⟩
        | 2, hy => exact ⟨2, (Option.some.inj hy).symm, by decide⟩
        | 3, hy => exact ⟨3, (Option.some.inj hy).symm, by decide⟩
        | 4, hy => exact ⟨4, (Option.some.inj hy).symm, by decide⟩
        | 5, hy => exact ⟨10 ^ (20 : Int).toNat, (Option.some.inj hy).symm, by decide⟩
        | i + 6, hy => cases hy
      refine ⟨_, rfl, _, rfl, _, rfl, _, rfl, rfl, rfl, p, false, xs, bs, n, hh, m, rfl, .lst (SqL.of (sA _ _ hp11)), bx11.k sA, G, R, m0, fun A1 v sA1 hv hNv => ?_⟩
      have sA1 := sA.trans sA1
      have htA1 := sA1 _ _ ht11
      have hWA1 := hW11.k sA1
      refine ⟨_, rfl, t, rfl, ⟨_, SqT.of htA1⟩, fun D hD => ?_⟩
      refine lc_it walk_tup (fun j Z => Same A1 Z ∧ ∃ ws, Z D = some (.lst ws) ∧ WrsAt K Z ws (((bs.take j).filter (fitB n hh bs m)).map (wrD n hh bs))) ⟨same_new hD, [], upd_same, rfl, fun i v hv => by cases hv⟩ (fun j Z _ h => SqT.of (h.1 _ _ htA1)) (fun j w Z Z' hj hP hY => ?_) (fun Z hP => ?_)
      · obtain ⟨sZ, ws, hL, hB⟩ := hP
        obtain ⟨rfl, hw⟩ := hY
        obtain ⟨r, hr, hwr⟩ := (hWA1.k sZ).2 j w hw
        rw [List.getElem?_map] at hr
        obtain ⟨x, hx, rfl⟩ := Option.map_eq_some_iff.mp hr
        obtain ⟨q2, u2, rfl, hq2, hu2⟩ := id hwr
        have hq2 : SqT K Z' q2 [.str (numS x.1), .str (srt x.2), oV (lenO (hidO x.1 x.2 n hh (othL bs x.1))), .ref u2] := hq2
        refine ⟨rfl, ?_⟩
        refine ⟨_, rfl, q2, _, 2, _, rfl, rfl, hq2, atI_nat (j := 2) rfl, rfl, _, rfl, ?_⟩
        rw [filb_succ _ hx]
        cases hc : lenO (hidO x.1 x.2 n hh (othL bs x.1)) with
        | none =>
          have ef : fitB n hh bs m x = false := by unfold fitB; rw [hc]
          refine iteF ?_
          rw [ef, if_neg (by decide), List.append_nil]
          exact ⟨sZ, ws, hL, hB⟩
        | some c =>
          have ef : fitB n hh bs m x = decide (c ≤ m) := by unfold fitB; rw [hc]
          rw [hc] at hq2
          refine iteT ⟨_, rfl, q2, _, 2, _, rfl, rfl, hq2, atI_nat (j := 2) rfl, _, rfl, c, m, rfl, rfl, _, rfl, ite2 (fun cc => ?_) (fun cc => ?_)⟩
          · have cc : fitB n hh bs m x = true := ef.trans cc
            have hl2 := hB.1
            have fl := List.length_filter_le (fitB n hh bs m) (bs.take j)
            rw [List.length_take] at fl
            rw [List.length_map] at hl2
            rw [if_pos cc]
            refine ⟨_, rfl, _, hL, small1000 (by omega), same_mut sZ hD, _, upd_same, ?_⟩
            rw [List.map_append]
            exact (hB.snoc hwr).kt (Kt.lst hL)
          · have cc : ¬ fitB n hh bs m x = true := by rw [ef]; exact cc
            rw [if_neg cc, List.append_nil]
            exact ⟨sZ, ws, hL, hB⟩
      obtain ⟨sZ, ws, hL, hB⟩ := hP
      rw [ely, List.take_of_length_le (Nat.le_refl _)] at hB
      have hv := hv.k sZ
      refine ⟨_, rfl, Nat.zero_le _, fun e he => ?_⟩
      have se := same_new (o := .lst []) he
      have xe := upd_same (H := Z) (a := e) (o := .lst [])
      have hLe := se _ _ hL
      have hBe := hB.k se
      have hv := hv.k se
      have sE := (sA1.trans sZ).trans se
      generalize upd Z e (.lst []) = E1 at *
      have fR : ∀ d ∈ ((bs.filter (fitB n hh bs m)).map (wrD n hh bs)).map wrDt, Fine 2 d := fun d md => by
        obtain ⟨r, mr, rfl⟩ := List.mem_map.mp md
        obtain ⟨x, mx, rfl⟩ := List.mem_map.mp mr
        exact fine_wr G (List.mem_filter.mp mx).1
      refine ⟨.list (((bs.filter (fitB n hh bs m)).map (wrD n hh bs)).map wrDt), .list [], .lst (SqL.of hLe) (dp_wrs hBe), .lst (SqL.of xe) .nil, (fine_lst fR).shaped (by decide), (fine_lst (n := 0) fun d m => by cases m).shaped (by decide), _, rfl, ?_⟩
      rw [eqv_lnil]
      rw [find_fil] at hv hNv
      cases hf : bs.filter (fitB n hh bs m) with
      | nil =>
        rw [hf] at hv
        have hv : v = .non := hv
        refine iteT ⟨_, rfl, rfl, _, rfl, iteN (by rw [hv]; rfl) ?_⟩
        exact ⟨_, _, _, _, rfl, sE⟩
      | cons x rest =>
        have mxf : x ∈ bs.filter (fitB n hh bs m) := by rw [hf]; exact List.mem_cons_self
        have mx := (List.mem_filter.mp mxf).1
        have fx : fitB n hh bs m x = true := (List.mem_filter.mp mxf).2
        rw [hf] at hv hBe hNv
        have hNx := hNv x rfl
        have GO := G.oth mx
        obtain ⟨w0, hw0⟩ : ∃ w, ws[0]? = some w := ⟨_, List.getElem?_eq_getElem (by have := hBe.1; rw [List.map_cons, List.length_cons] at this; omega)⟩
        obtain ⟨r0, hr0, q0, u0, rfl, hq0, hu0⟩ := hBe.2 0 w0 hw0
        have er : wrD n hh bs x = r0 := Option.some.inj hr0
        subst er
        have hq0 : SqT K E1 q0 [.str (numS x.1), .str (srt x.2), oV (lenO (hidO x.1 x.2 n hh (othL bs x.1))), .ref u0] := hq0
        have hv : HidAt K T.HC E1 v x.1 x.2 (hidO x.1 x.2 n hh (othL bs x.1)) := hv
        cases ho : hidO x.1 x.2 n hh (othL bs x.1) with
        | none =>
          unfold fitB lenO at fx
          rw [ho] at fx
          cases fx
        | some l =>
          have nl := hNx l ho
          rw [ho] at hv hq0
          obtain ⟨p7, t7, ys7, rfl, hi7, ht7, hp7⟩ := hv
          obtain ⟨dx7, fs7, hpa7, lN, lB, lP⟩ := id hi7.at'
          have el7 := hp7.1
          have fP : ∀ d ∈ l.map pulD, Fine 1 d := fun d md => by
            obtain ⟨z, mz, rfl⟩ := List.mem_map.mp md
            exact fine_pul (hid_num GO.num ho z mz)
          refine iteF ?_
          refine ⟨_, rfl, _, _, _, _, true, rfl, .own T.HC, ins_ty T.clHC T.isiHC hpa7, T.kSHC, true, rfl, iteF ?_⟩
          refine ⟨_, rfl, p7, T.HC, dx7, fs7, _, rfl, hpa7, T.clHC, T.nN, lN, _, rfl, D, _, 0, _, rfl, rfl, SqL.of hLe, atI_nat (j := 0) hw0, q0, _, 0, _, rfl, rfl, hq0, atI_nat (j := 0) rfl, rfl, _, rfl, iteN (by simp) ?_⟩
          refine ⟨_, rfl, p7, T.HC, dx7, fs7, _, rfl, hpa7, T.clHC, T.nB, lB, _, rfl, D, _, 0, _, rfl, rfl, SqL.of hLe, atI_nat (j := 0) hw0, q0, _, 1, _, rfl, rfl, hq0, atI_nat (j := 1) rfl, rfl, _, rfl, iteN (by simp) ?_⟩
          refine ⟨_, rfl, p7, dx7, fs7, rfl, hpa7, p7, t7, ys7, rfl, len_at hi7 ht7, _, rfl, by omega, by omega, _, rfl, D, _, 0, _, rfl, rfl, SqL.of hLe, atI_nat (j := 0) hw0, q0, _, 2, _, rfl, rfl, hq0, atI_nat (j := 2) rfl, rfl, _, rfl, iteN (by rw [el7]; show (!decide (V.int ((l.length : Nat) : Int) = V.int ((l.length : Nat) : Int))) = false; simp) ?_⟩
          have bxE : BxsAt K E1 xs bs := bx11.k sE
          have hpE := sE _ _ hp11
          refine ⟨_, rfl, p, rfl, ⟨_, SqL.of hpE⟩, fun D2 hD2 => ?_⟩
          refine lc_it walk_list (fun j Y => Same E1 Y ∧ ∃ os, Y D2 = some (.lst os) ∧ BxsAt K Y os ((bs.take j).filter fun y => decide (y.1 ≠ x.1))) ⟨same_new hD2, [], upd_same, rfl, fun i v hv => by cases hv⟩ (fun j Y _ h => SqL.of (h.1 _ _ hpE)) (fun j w Y Y' hj hP hY => ?_) (fun Y hP => ?_)
          · obtain ⟨sY, os, hO, hOB⟩ := hP
            obtain ⟨rfl, hw⟩ := hY
            obtain ⟨y, hby, q9, rfl, hq9⟩ := bxE.2 j w hw
            have hq9 := sameT sY hq9
            refine ⟨rfl, ?_⟩
            refine ⟨_, rfl, q9, _, 0, _, rfl, rfl, hq9, atI_nat (j := 0) rfl, _, rfl, p7, T.HC, dx7, fs7, _, rfl, sY _ _ hpa7, T.clHC, T.nN, lN, rfl, _, rfl, ?_⟩
            rw [ne_num, filb_succ _ hby]
            refine ite2 (fun c => ?_) (fun c => ?_)
            · rw [if_pos c]
              have hl2 := hOB.1
              have fl := List.length_filter_le (fun y : Bx => decide (y.1 ≠ x.1)) (bs.take j)
              rw [List.length_take] at fl
              exact ⟨_, rfl, _, hO, small1000 (by omega), same_mut sY hD2, _, upd_same, (hOB.snoc ⟨q9, rfl, hq9⟩).kt (Kt.lst hO)⟩
            · rw [if_neg c, List.append_nil]
              exact ⟨sY, os, hO, hOB⟩
          obtain ⟨sY, os, hO, hOB⟩ := hP
          rw [elx, List.take_of_length_le (Nat.le_refl _)] at hOB
          have hiY := hi7.k sY
          have htY := sameT sY ht7
          have hpY := hp7.k sY
          refine ⟨_, rfl, lst_h (len_at hiY htY) (by omega) fun u1 hu1 => ?_⟩
          have s1' := same_new (o := .lst ys7) hu1
          have x1' := upd_same (H := Y) (a := u1) (o := .lst ys7)
          have hO1 := s1' _ _ hO
          have hOB1 := hOB.k s1'
          have hp1' := hpY.k s1'
          have hpa1 := s1' _ _ (sY _ _ hpa7)
          generalize upd Y u1 (.lst ys7) = Y1 at *
          refine ⟨_, rfl, _, rfl, p7, T.HC, dx7, fs7, _, rfl, hpa1, T.clHC, T.nN, lN, _, rfl, p7, T.HC, dx7, fs7, _, rfl, hpa1, T.clHC, T.nB, lB, _, rfl, _, rfl, rfl, rfl, D2, os, othL bs x.1, x.1, x.2, n, hh, rfl, SqL.of hO1, hOB1, GO, R, fun B w sB hw hNw => ?_⟩
          rw [ho] at hw
          obtain ⟨p8, t8, ys8, rfl, hi8, ht8', hp8'⟩ := hw
          have el8 := hp8'.1
          refine lst_h (len_at hi8 ht8') (by omega) fun u2 hu2 => ?_
          have s2' := same_new (o := .lst ys8) hu2
          refine ⟨.list (l.map pulD), .list (l.map pulD), .lst (SqL.of (s2' _ _ (sB _ _ x1'))) (dp_puls ((hp1'.k sB).k s2')), .lst (SqL.of upd_same) (dp_puls (hp8'.k s2')), (fine_lst fP).shaped (by decide), (fine_lst fP).shaped (by decide), _, rfl, ?_⟩
          rw [eqv_fine (fine_lst fP)]
          refine iteF ?_
          exact ⟨_, _, _, _, rfl, (((sE.trans sY).trans s1').trans sB).trans s2'⟩
    · obtain ⟨v9, v10, v11, v12, rfl, sA⟩ := hP
      have hpE := sA _ _ hp11
      have htE := sA _ _ ht11
      have htpE := sA _ _ htp11
      have bxE := bx11.k sA
      have hWE := hW11.k sA
      by_cases c1 : hh = 1
      · subst c1
        refine ⟨_, rfl, rfl, _, rfl, iteY (decide_eq_true rfl) ?_⟩
        refine ⟨_, rfl, p, _, rfl, .inl ⟨SqL.of hpE, fun l3 hl3 => ?_⟩⟩
        have s3' := same_new (o := .tup xs) hl3
        have x3' := upd_same (H := A) (a := l3) (o := .tup xs)
        have hp3' := s3' _ _ hpE
        have ht3' := s3' _ _ htE
        have htp3' := s3' _ _ htpE
        have bx3' := bxE.k s3'
        have hW3' := hWE.k s3'
        generalize upd A l3 (.tup xs) = B0 at *
        refine ⟨_, rfl, rfl, rfl, l3, true, xs, bs, n, 1, rfl, .tup (SqT.of x3'), bx3', G, R, fun B1 t2 ys2 sB1 f2 ht2 hW2 hN2 => ?_⟩
        have fR : ∀ d ∈ (bs.map (wrD n 1 bs)).map wrDt, Fine 2 d := fun d md => by
          obtain ⟨r, mr, rfl⟩ := List.mem_map.mp md
          obtain ⟨x, mx, rfl⟩ := List.mem_map.mp mr
          exact fine_wr G mx
        refine ⟨_, rfl, .tuple ((bs.map (wrD n 1 bs)).map wrDt), .tuple ((bs.map (wrD n 1 bs)).map wrDt), .tup (SqT.of ht2) (dp_wrs hW2), .tup (SqT.of (sB1 _ _ ht3')) (dp_wrs (hW3'.k sB1)), (fine_tup fR).shaped (by decide), (fine_tup fR).shaped (by decide), _, rfl, ?_⟩
        rw [eqv_fine (fine_tup fR)]
        refine iteF ?_
        refine ⟨_, rfl, _, rfl, rfl, rfl, p, false, xs, bs, n, 1, rfl, .lst (SqL.of (sB1 _ _ hp3')), bx3'.k sB1, G, R, fun B2 tp2 sB2 f2 htp2 => ?_⟩
        refine ⟨_, rfl, .tuple ((bs.map fun x => lineT (wrD n 1 bs x)).map PyData.str), .tuple ((bs.map fun x => lineT (wrD n 1 bs x)).map PyData.str), .tup (SqT.of htp2) (dp_strs _), .tup (SqT.of (sB2 _ _ (sB1 _ _ htp3'))) (dp_strs _), (fine_tup fS).shaped (by decide), (fine_tup fS).shaped (by decide), _, rfl, ?_⟩
        rw [eqv_fine (fine_tup fS)]
        refine iteF ?_
        have hpB := sB2 _ _ (sB1 _ _ hp3')
        have bxB := (bx3'.k sB1).k sB2
        refine ⟨fun _ _ => True, ?_, fun _ _ _ => k _⟩
        refine ⟨_, rfl, rfl, _, rfl, iteY (decide_eq_true rfl) ?_⟩
        refine ⟨_, rfl, _, rfl, rfl, rfl, p, false, xs, bs, n, 1, 9, rfl, .lst (SqL.of hpB), bxB, G, R, by decide, fun C1 w1 sC1 hv1 hn1 => ?_⟩
        refine ⟨_, rfl, _, rfl, rfl, rfl, p, false, xs, bs, n, 1, 9, rfl, .lst (SqL.of (sC1 _ _ hpB)), bxB.k sC1, G, R, by decide, fun C2 w2 sC2 hv2 hn2 => ?_⟩
        have hv1 := hv1.k sC2
        refine ⟨by show 2 ≤ sizeLine; decide, fun u9 hu9 => ?_⟩
        have s9 := same_new (o := .tup [w1, w2]) hu9
        have hv1 := hv1.k s9
        have hv2 := hv2.k s9
        have x9 := upd_same (H := C2) (a := u9) (o := .tup [w1, w2])
        generalize upd C2 u9 (.tup [w1, w2]) = C3 at *
        refine ⟨u9, _, rfl, SqT.of x9, rfl, _, _, rfl, _, _, rfl, rfl, ?_⟩
        cases hfd : bs.find? (fitB n 1 bs 9) with
        | none =>
          rw [hfd] at hv1 hv2
          have e1 : w1 = .non := hv1
          have e2 : w2 = .non := hv2
          subst e1 e2
          exact ⟨_, rfl, rfl, _, rfl, rfl, rfl, _, rfl, iteF ⟨_, rfl, rfl, _, rfl, iteF trivial⟩⟩
        | some x =>
          rw [hfd] at hv1 hv2
          have mx := List.mem_of_find?_eq_some hfd
          have hNx := hn1 x hfd
          have hv1 : HidAt K T.HC C3 w1 x.1 x.2 (hidO x.1 x.2 n 1 (othL bs x.1)) := hv1
          have hv2 : HidAt K T.HC C3 w2 x.1 x.2 (hidO x.1 x.2 n 1 (othL bs x.1)) := hv2
          cases ho : hidO x.1 x.2 n 1 (othL bs x.1) with
          | none =>
            rw [ho] at hv1 hv2
            have e1 : w1 = .non := hv1
            have e2 : w2 = .non := hv2
            subst e1 e2
            exact ⟨_, rfl, rfl, _, rfl, rfl, rfl, _, rfl, iteF ⟨_, rfl, rfl, _, rfl, iteF trivial⟩⟩
          | some l =>
            have nl := hNx l ho
            rw [ho] at hv1 hv2
            obtain ⟨p7, t7, ys7, rfl, hi7, ht7', hp7⟩ := hv1
            obtain ⟨p8, t8, ys8, rfl, hi8, ht8', hp8'⟩ := hv2
            have el7 := hp7.1
            have el8 := hp8'.1
            have fP : ∀ d ∈ l.map pulD, Fine 1 d := fun d md => by
              obtain ⟨z, mz, rfl⟩ := List.mem_map.mp md
              exact fine_pul (hid_num (fun y my => G.num y (List.mem_filter.mp my).1) ho z mz)
            refine ⟨_, rfl, rfl, _, rfl, rfl, rfl, _, rfl, iteF ⟨_, rfl, rfl, _, rfl, iteT ?_⟩⟩
            refine ⟨_, rfl, lst_h (len_at hi7 ht7') (by omega) fun u1 hu1 => ?_⟩
            have q1 := same_new (o := .lst ys7) hu1
            refine ⟨_, rfl, lst_h (len_at (hi8.k q1) (sameT q1 ht8')) (by omega) fun u2 hu2 => ?_⟩
            have q2 := same_new (o := .lst ys8) hu2
            refine ⟨.list (l.map pulD), .list (l.map pulD), .lst (SqL.of (q2 _ _ upd_same)) (dp_puls ((hp7.k q1).k q2)), .lst (SqL.of upd_same) (dp_puls ((hp8'.k q1).k q2)), (fine_lst fP).shaped (by decide), (fine_lst fP).shaped (by decide), _, rfl, ?_⟩
            rw [eqv_fine (fine_lst fP)]
            exact iteF trivial
      · refine ⟨_, rfl, rfl, _, rfl, iteN (decide_eq_false fun z => c1 (V.int.inj z)) ?_⟩
        refine ⟨fun _ _ => True, ?_, fun _ _ _ => k _⟩
        exact ⟨_, rfl, rfl, _, rfl, iteN (decide_eq_false fun z => c1 (V.int.inj z)) trivial⟩
end
end K47

namespace K47
open PySem L2 Wm TL Dv PySem.W
theorem all_mk {l : PySem.W.OpenLaw} {w : World} {K : PySem.W.Frag} {h : Heap} {mg : Str → Option Value} {fa : Addr} (X : K.In h) (G : h.Ns mainGlobals mg) (hfa : mg "law" = some (.ref fa))
    {xC : Addr}
    (axC : PySem.W.nsIn K mainGlobals "Strokes" = some (some (.ref xC)))
    {xW : Addr}
    (axW : PySem.W.nsIn K mainGlobals "Town" = some (some (.ref xW)))
    {xH : Addr}
    (axH : PySem.W.nsIn K mainGlobals "Hiding" = some (some (.ref xH)))
    {x_is_whole : Addr} {od_is_whole an_is_whole : Option Addr} {sl_is_whole : Array (Option Value)} {oc_is_whole dc_is_whole pm_is_whole cd_is_whole ct_is_whole : Value}
    {kV_is_whole : Value}
    (a_is_whole : PySem.W.nsIn K mainGlobals "is_whole" = some (some (.ref x_is_whole)))
    (l_is_whole : K.lookup x_is_whole = some ⟨oc_is_whole, od_is_whole, .func (PySem.W.fnOf "is_whole" "is_whole" (defArgs s_is_whole) (defBody s_is_whole) (defScope s_is_whole) .none kV_is_whole dc_is_whole pm_is_whole an_is_whole cd_is_whole ct_is_whole), sl_is_whole⟩)
    (c_is_whole : PySem.W.codeIn K cd_is_whole "is_whole" = true)
    (k_is_whole : PySem.W.keepIn K (.ref x_is_whole) = true)
    {x_is_whole_within : Addr} {od_is_whole_within an_is_whole_within : Option Addr} {sl_is_whole_within : Array (Option Value)} {oc_is_whole_within dc_is_whole_within pm_is_whole_within cd_is_whole_within ct_is_whole_within : Value}
    {kV_is_whole_within : Value}
    (a_is_whole_within : PySem.W.nsIn K mainGlobals "is_whole_within" = some (some (.ref x_is_whole_within)))
    (l_is_whole_within : K.lookup x_is_whole_within = some ⟨oc_is_whole_within, od_is_whole_within, .func (PySem.W.fnOf "is_whole_within" "is_whole_within" (defArgs s_is_whole_within) (defBody s_is_whole_within) (defScope s_is_whole_within) .none kV_is_whole_within dc_is_whole_within pm_is_whole_within an_is_whole_within cd_is_whole_within ct_is_whole_within), sl_is_whole_within⟩)
    (c_is_whole_within : PySem.W.codeIn K cd_is_whole_within "is_whole_within" = true)
    (k_is_whole_within : PySem.W.keepIn K (.ref x_is_whole_within) = true)
    {x_is_sequence : Addr} {od_is_sequence an_is_sequence : Option Addr} {sl_is_sequence : Array (Option Value)} {oc_is_sequence dc_is_sequence pm_is_sequence cd_is_sequence ct_is_sequence : Value}
    {kV_is_sequence : Value}
    (a_is_sequence : PySem.W.nsIn K mainGlobals "is_sequence" = some (some (.ref x_is_sequence)))
    (l_is_sequence : K.lookup x_is_sequence = some ⟨oc_is_sequence, od_is_sequence, .func (PySem.W.fnOf "is_sequence" "is_sequence" (defArgs s_is_sequence) (defBody s_is_sequence) (defScope s_is_sequence) .none kV_is_sequence dc_is_sequence pm_is_sequence an_is_sequence cd_is_sequence ct_is_sequence), sl_is_sequence⟩)
    (c_is_sequence : PySem.W.codeIn K cd_is_sequence "is_sequence" = true)
    (k_is_sequence : PySem.W.keepIn K (.ref x_is_sequence) = true)
    {x_is_number : Addr} {od_is_number an_is_number : Option Addr} {sl_is_number : Array (Option Value)} {oc_is_number dc_is_number pm_is_number cd_is_number ct_is_number : Value}
    {kV_is_number : Value}
    (a_is_number : PySem.W.nsIn K mainGlobals "is_number" = some (some (.ref x_is_number)))
    (l_is_number : K.lookup x_is_number = some ⟨oc_is_number, od_is_number, .func (PySem.W.fnOf "is_number" "is_number" (defArgs s_is_number) (defBody s_is_number) (defScope s_is_number) .none kV_is_number dc_is_number pm_is_number an_is_number cd_is_number ct_is_number), sl_is_number⟩)
    (c_is_number : PySem.W.codeIn K cd_is_number "is_number" = true)
    (k_is_number : PySem.W.keepIn K (.ref x_is_number) = true)
    {x_check_number : Addr} {od_check_number an_check_number : Option Addr} {sl_check_number : Array (Option Value)} {oc_check_number dc_check_number pm_check_number cd_check_number ct_check_number : Value}
    {kV_check_number : Value}
    (a_check_number : PySem.W.nsIn K mainGlobals "check_number" = some (some (.ref x_check_number)))
    (l_check_number : K.lookup x_check_number = some ⟨oc_check_number, od_check_number, .func (PySem.W.fnOf "check_number" "check_number" (defArgs s_check_number) (defBody s_check_number) (defScope s_check_number) .none kV_check_number dc_check_number pm_check_number an_check_number cd_check_number ct_check_number), sl_check_number⟩)
    (c_check_number : PySem.W.codeIn K cd_check_number "check_number" = true)
    (k_check_number : PySem.W.keepIn K (.ref x_check_number) = true)
    {x_blocks : Addr} {od_blocks an_blocks : Option Addr} {sl_blocks : Array (Option Value)} {oc_blocks dc_blocks pm_blocks cd_blocks ct_blocks : Value}
    {kV_blocks : Value}
    (a_blocks : PySem.W.nsIn K mainGlobals "blocks" = some (some (.ref x_blocks)))
    (l_blocks : K.lookup x_blocks = some ⟨oc_blocks, od_blocks, .func (PySem.W.fnOf "blocks" "blocks" (defArgs s_blocks) (defBody s_blocks) (defScope s_blocks) .none kV_blocks dc_blocks pm_blocks an_blocks cd_blocks ct_blocks), sl_blocks⟩)
    (c_blocks : PySem.W.codeIn K cd_blocks "blocks" = true)
    (k_blocks : PySem.W.keepIn K (.ref x_blocks) = true)
    {x_row_of : Addr} {od_row_of an_row_of : Option Addr} {sl_row_of : Array (Option Value)} {oc_row_of dc_row_of pm_row_of cd_row_of ct_row_of : Value}
    {kV_row_of : Value}
    (a_row_of : PySem.W.nsIn K mainGlobals "row_of" = some (some (.ref x_row_of)))
    (l_row_of : K.lookup x_row_of = some ⟨oc_row_of, od_row_of, .func (PySem.W.fnOf "row_of" "row_of" (defArgs s_row_of) (defBody s_row_of) (defScope s_row_of) .none kV_row_of dc_row_of pm_row_of an_row_of cd_row_of ct_row_of), sl_row_of⟩)
    (c_row_of : PySem.W.codeIn K cd_row_of "row_of" = true)
    (k_row_of : PySem.W.keepIn K (.ref x_row_of) = true)
    {x_length_of : Addr} {od_length_of an_length_of : Option Addr} {sl_length_of : Array (Option Value)} {oc_length_of dc_length_of pm_length_of cd_length_of ct_length_of : Value}
    {kV_length_of : Value}
    (a_length_of : PySem.W.nsIn K mainGlobals "length_of" = some (some (.ref x_length_of)))
    (l_length_of : K.lookup x_length_of = some ⟨oc_length_of, od_length_of, .func (PySem.W.fnOf "length_of" "length_of" (defArgs s_length_of) (defBody s_length_of) (defScope s_length_of) .none kV_length_of dc_length_of pm_length_of an_length_of cd_length_of ct_length_of), sl_length_of⟩)
    (c_length_of : PySem.W.codeIn K cd_length_of "length_of" = true)
    (k_length_of : PySem.W.keepIn K (.ref x_length_of) = true)
    {x_is_sort : Addr} {od_is_sort an_is_sort : Option Addr} {sl_is_sort : Array (Option Value)} {oc_is_sort dc_is_sort pm_is_sort cd_is_sort ct_is_sort : Value}
    {kV_is_sort : Value}
    (a_is_sort : PySem.W.nsIn K mainGlobals "is_sort" = some (some (.ref x_is_sort)))
    (l_is_sort : K.lookup x_is_sort = some ⟨oc_is_sort, od_is_sort, .func (PySem.W.fnOf "is_sort" "is_sort" (defArgs s_is_sort) (defBody s_is_sort) (defScope s_is_sort) .none kV_is_sort dc_is_sort pm_is_sort an_is_sort cd_is_sort ct_is_sort), sl_is_sort⟩)
    (c_is_sort : PySem.W.codeIn K cd_is_sort "is_sort" = true)
    (k_is_sort : PySem.W.keepIn K (.ref x_is_sort) = true)
    {x_is_box : Addr} {od_is_box an_is_box : Option Addr} {sl_is_box : Array (Option Value)} {oc_is_box dc_is_box pm_is_box cd_is_box ct_is_box : Value}
    {kV_is_box : Value}
    (a_is_box : PySem.W.nsIn K mainGlobals "is_box" = some (some (.ref x_is_box)))
    (l_is_box : K.lookup x_is_box = some ⟨oc_is_box, od_is_box, .func (PySem.W.fnOf "is_box" "is_box" (defArgs s_is_box) (defBody s_is_box) (defScope s_is_box) .none kV_is_box dc_is_box pm_is_box an_is_box cd_is_box ct_is_box), sl_is_box⟩)
    (c_is_box : PySem.W.codeIn K cd_is_box "is_box" = true)
    (k_is_box : PySem.W.keepIn K (.ref x_is_box) = true)
    {x_has_double : Addr} {od_has_double an_has_double : Option Addr} {sl_has_double : Array (Option Value)} {oc_has_double dc_has_double pm_has_double cd_has_double ct_has_double : Value}
    {kV_has_double : Value}
    (a_has_double : PySem.W.nsIn K mainGlobals "has_double" = some (some (.ref x_has_double)))
    (l_has_double : K.lookup x_has_double = some ⟨oc_has_double, od_has_double, .func (PySem.W.fnOf "has_double" "has_double" (defArgs s_has_double) (defBody s_has_double) (defScope s_has_double) .none kV_has_double dc_has_double pm_has_double an_has_double cd_has_double ct_has_double), sl_has_double⟩)
    (c_has_double : PySem.W.codeIn K cd_has_double "has_double" = true)
    (k_has_double : PySem.W.keepIn K (.ref x_has_double) = true)
    {x_are_boxes : Addr} {od_are_boxes an_are_boxes : Option Addr} {sl_are_boxes : Array (Option Value)} {oc_are_boxes dc_are_boxes pm_are_boxes cd_are_boxes ct_are_boxes : Value}
    {kV_are_boxes : Value}
    (a_are_boxes : PySem.W.nsIn K mainGlobals "are_boxes" = some (some (.ref x_are_boxes)))
    (l_are_boxes : K.lookup x_are_boxes = some ⟨oc_are_boxes, od_are_boxes, .func (PySem.W.fnOf "are_boxes" "are_boxes" (defArgs s_are_boxes) (defBody s_are_boxes) (defScope s_are_boxes) .none kV_are_boxes dc_are_boxes pm_are_boxes an_are_boxes cd_are_boxes ct_are_boxes), sl_are_boxes⟩)
    (c_are_boxes : PySem.W.codeIn K cd_are_boxes "are_boxes" = true)
    (k_are_boxes : PySem.W.keepIn K (.ref x_are_boxes) = true)
    {x_check_called : Addr} {od_check_called an_check_called : Option Addr} {sl_check_called : Array (Option Value)} {oc_check_called dc_check_called pm_check_called cd_check_called ct_check_called : Value}
    {kV_check_called : Value}
    (a_check_called : PySem.W.nsIn K mainGlobals "check_called" = some (some (.ref x_check_called)))
    (l_check_called : K.lookup x_check_called = some ⟨oc_check_called, od_check_called, .func (PySem.W.fnOf "check_called" "check_called" (defArgs s_check_called) (defBody s_check_called) (defScope s_check_called) .none kV_check_called dc_check_called pm_check_called an_check_called cd_check_called ct_check_called), sl_check_called⟩)
    (c_check_called : PySem.W.codeIn K cd_check_called "check_called" = true)
    (k_check_called : PySem.W.keepIn K (.ref x_check_called) = true)
    {x_check_sort : Addr} {od_check_sort an_check_sort : Option Addr} {sl_check_sort : Array (Option Value)} {oc_check_sort dc_check_sort pm_check_sort cd_check_sort ct_check_sort : Value}
    {kV_check_sort : Value}
    (a_check_sort : PySem.W.nsIn K mainGlobals "check_sort" = some (some (.ref x_check_sort)))
    (l_check_sort : K.lookup x_check_sort = some ⟨oc_check_sort, od_check_sort, .func (PySem.W.fnOf "check_sort" "check_sort" (defArgs s_check_sort) (defBody s_check_sort) (defScope s_check_sort) .none kV_check_sort dc_check_sort pm_check_sort an_check_sort cd_check_sort ct_check_sort), sl_check_sort⟩)
    (c_check_sort : PySem.W.codeIn K cd_check_sort "check_sort" = true)
    (k_check_sort : PySem.W.keepIn K (.ref x_check_sort) = true)
    {x_check_others : Addr} {od_check_others an_check_others : Option Addr} {sl_check_others : Array (Option Value)} {oc_check_others dc_check_others pm_check_others cd_check_others ct_check_others : Value}
    {kV_check_others : Value}
    (a_check_others : PySem.W.nsIn K mainGlobals "check_others" = some (some (.ref x_check_others)))
    (l_check_others : K.lookup x_check_others = some ⟨oc_check_others, od_check_others, .func (PySem.W.fnOf "check_others" "check_others" (defArgs s_check_others) (defBody s_check_others) (defScope s_check_others) .none kV_check_others dc_check_others pm_check_others an_check_others cd_check_others ct_check_others), sl_check_others⟩)
    (c_check_others : PySem.W.codeIn K cd_check_others "check_others" = true)
    (k_check_others : PySem.W.keepIn K (.ref x_check_others) = true)
    {x_check_wire : Addr} {od_check_wire an_check_wire : Option Addr} {sl_check_wire : Array (Option Value)} {oc_check_wire dc_check_wire pm_check_wire cd_check_wire ct_check_wire : Value}
    {kV_check_wire : Value}
    (a_check_wire : PySem.W.nsIn K mainGlobals "check_wire" = some (some (.ref x_check_wire)))
    (l_check_wire : K.lookup x_check_wire = some ⟨oc_check_wire, od_check_wire, .func (PySem.W.fnOf "check_wire" "check_wire" (defArgs s_check_wire) (defBody s_check_wire) (defScope s_check_wire) .none kV_check_wire dc_check_wire pm_check_wire an_check_wire cd_check_wire ct_check_wire), sl_check_wire⟩)
    (c_check_wire : PySem.W.codeIn K cd_check_wire "check_wire" = true)
    (k_check_wire : PySem.W.keepIn K (.ref x_check_wire) = true)
    {x_check_rounds : Addr} {od_check_rounds an_check_rounds : Option Addr} {sl_check_rounds : Array (Option Value)} {oc_check_rounds dc_check_rounds pm_check_rounds cd_check_rounds ct_check_rounds : Value}
    {kV_check_rounds : Value}
    (a_check_rounds : PySem.W.nsIn K mainGlobals "check_rounds" = some (some (.ref x_check_rounds)))
    (l_check_rounds : K.lookup x_check_rounds = some ⟨oc_check_rounds, od_check_rounds, .func (PySem.W.fnOf "check_rounds" "check_rounds" (defArgs s_check_rounds) (defBody s_check_rounds) (defScope s_check_rounds) .none kV_check_rounds dc_check_rounds pm_check_rounds an_check_rounds cd_check_rounds ct_check_rounds), sl_check_rounds⟩)
    (c_check_rounds : PySem.W.codeIn K cd_check_rounds "check_rounds" = true)
    (k_check_rounds : PySem.W.keepIn K (.ref x_check_rounds) = true)
    {x_check_hear : Addr} {od_check_hear an_check_hear : Option Addr} {sl_check_hear : Array (Option Value)} {oc_check_hear dc_check_hear pm_check_hear cd_check_hear ct_check_hear : Value}
    {kV_check_hear : Value}
    (a_check_hear : PySem.W.nsIn K mainGlobals "check_hear" = some (some (.ref x_check_hear)))
    (l_check_hear : K.lookup x_check_hear = some ⟨oc_check_hear, od_check_hear, .func (PySem.W.fnOf "check_hear" "check_hear" (defArgs s_check_hear) (defBody s_check_hear) (defScope s_check_hear) .none kV_check_hear dc_check_hear pm_check_hear an_check_hear cd_check_hear ct_check_hear), sl_check_hear⟩)
    (c_check_hear : PySem.W.codeIn K cd_check_hear "check_hear" = true)
    (k_check_hear : PySem.W.keepIn K (.ref x_check_hear) = true)
    {x_check_offset : Addr} {od_check_offset an_check_offset : Option Addr} {sl_check_offset : Array (Option Value)} {oc_check_offset dc_check_offset pm_check_offset cd_check_offset ct_check_offset : Value}
    {kV_check_offset : Value}
    (a_check_offset : PySem.W.nsIn K mainGlobals "check_offset" = some (some (.ref x_check_offset)))
    (l_check_offset : K.lookup x_check_offset = some ⟨oc_check_offset, od_check_offset, .func (PySem.W.fnOf "check_offset" "check_offset" (defArgs s_check_offset) (defBody s_check_offset) (defScope s_check_offset) .none kV_check_offset dc_check_offset pm_check_offset an_check_offset cd_check_offset ct_check_offset), sl_check_offset⟩)
    (c_check_offset : PySem.W.codeIn K cd_check_offset "check_offset" = true)
    (k_check_offset : PySem.W.keepIn K (.ref x_check_offset) = true)
    {x_init : Addr} {od_init an_init : Option Addr} {sl_init : Array (Option Value)} {oc_init dc_init pm_init cd_init ct_init : Value}
    {kV_init : Value}
    {xT xE : Addr} {ocT : Value} {odT : Option Addr} {nT : Nat} {slT : Array (Option Value)} {odE : Option Addr} {nE : Nat} {slE : Array (Option Value)}
    (a_init : PySem.W.findIn K (.ref xC) "__init__" = some (some (.ref x_init)))
    (i_init : PySem.W.isFn K (.ref x_init) = true)
    (l_init : K.lookup x_init = some ⟨oc_init, od_init, .func (PySem.W.fnOf "__init__" "Strokes.__init__" (defArgs s_init) (defBody s_init) (defScope s_init) (.ref xT) kV_init dc_init pm_init an_init cd_init ct_init), sl_init⟩)
    (c_init : PySem.W.codeIn K cd_init "Strokes.__init__" = true)
    (k_init : PySem.W.keepIn K (.ref x_init) = true)
    (e_init : K.lookup xT = some ⟨ocT, odT, .seq #[.ref xE] nT, slT⟩)
    (e2_init : K.lookup xE = some ⟨.type "tuple", odE, .seq #[] nE, slE⟩)
    {x_iter : Addr} {od_iter an_iter : Option Addr} {sl_iter : Array (Option Value)} {oc_iter dc_iter pm_iter cd_iter ct_iter : Value}
    {kV_iter : Value}
    (a_iter : PySem.W.findIn K (.ref xC) "__iter__" = some (some (.ref x_iter)))
    (i_iter : PySem.W.isFn K (.ref x_iter) = true)
    (l_iter : K.lookup x_iter = some ⟨oc_iter, od_iter, .func (PySem.W.fnOf "__iter__" "Strokes.__iter__" (defArgs s_iter) (defBody s_iter) (defScope s_iter) .none kV_iter dc_iter pm_iter an_iter cd_iter ct_iter), sl_iter⟩)
    (c_iter : PySem.W.codeIn K cd_iter "Strokes.__iter__" = true)
    (k_iter : PySem.W.keepIn K (.ref x_iter) = true)
    {x_strokes_of : Addr} {od_strokes_of an_strokes_of : Option Addr} {sl_strokes_of : Array (Option Value)} {oc_strokes_of dc_strokes_of pm_strokes_of cd_strokes_of ct_strokes_of : Value}
    {kV_strokes_of : Value}
    (a_strokes_of : PySem.W.nsIn K mainGlobals "strokes_of" = some (some (.ref x_strokes_of)))
    (l_strokes_of : K.lookup x_strokes_of = some ⟨oc_strokes_of, od_strokes_of, .func (PySem.W.fnOf "strokes_of" "strokes_of" (defArgs s_strokes_of) (defBody s_strokes_of) (defScope s_strokes_of) .none kV_strokes_of dc_strokes_of pm_strokes_of an_strokes_of cd_strokes_of ct_strokes_of), sl_strokes_of⟩)
    (c_strokes_of : PySem.W.codeIn K cd_strokes_of "strokes_of" = true)
    (k_strokes_of : PySem.W.keepIn K (.ref x_strokes_of) = true)
    {x_has_stroke : Addr} {od_has_stroke an_has_stroke : Option Addr} {sl_has_stroke : Array (Option Value)} {oc_has_stroke dc_has_stroke pm_has_stroke cd_has_stroke ct_has_stroke : Value}
    {kV_has_stroke : Value}
    (a_has_stroke : PySem.W.nsIn K mainGlobals "has_stroke" = some (some (.ref x_has_stroke)))
    (l_has_stroke : K.lookup x_has_stroke = some ⟨oc_has_stroke, od_has_stroke, .func (PySem.W.fnOf "has_stroke" "has_stroke" (defArgs s_has_stroke) (defBody s_has_stroke) (defScope s_has_stroke) .none kV_has_stroke dc_has_stroke pm_has_stroke an_has_stroke cd_has_stroke ct_has_stroke), sl_has_stroke⟩)
    (c_has_stroke : PySem.W.codeIn K cd_has_stroke "has_stroke" = true)
    (k_has_stroke : PySem.W.keepIn K (.ref x_has_stroke) = true)
    {x_spoilt_rounds : Addr} {od_spoilt_rounds an_spoilt_rounds : Option Addr} {sl_spoilt_rounds : Array (Option Value)} {oc_spoilt_rounds dc_spoilt_rounds pm_spoilt_rounds cd_spoilt_rounds ct_spoilt_rounds : Value}
    {kV_spoilt_rounds : Value}
    (a_spoilt_rounds : PySem.W.nsIn K mainGlobals "spoilt_rounds" = some (some (.ref x_spoilt_rounds)))
    (l_spoilt_rounds : K.lookup x_spoilt_rounds = some ⟨oc_spoilt_rounds, od_spoilt_rounds, .func (PySem.W.fnOf "spoilt_rounds" "spoilt_rounds" (defArgs s_spoilt_rounds) (defBody s_spoilt_rounds) (defScope s_spoilt_rounds) .none kV_spoilt_rounds dc_spoilt_rounds pm_spoilt_rounds an_spoilt_rounds cd_spoilt_rounds ct_spoilt_rounds), sl_spoilt_rounds⟩)
    (c_spoilt_rounds : PySem.W.codeIn K cd_spoilt_rounds "spoilt_rounds" = true)
    (k_spoilt_rounds : PySem.W.keepIn K (.ref x_spoilt_rounds) = true)
    {x_given_offsets : Addr} {od_given_offsets an_given_offsets : Option Addr} {sl_given_offsets : Array (Option Value)} {oc_given_offsets dc_given_offsets pm_given_offsets cd_given_offsets ct_given_offsets : Value}
    {kV_given_offsets : Value}
    (a_given_offsets : PySem.W.nsIn K mainGlobals "given_offsets" = some (some (.ref x_given_offsets)))
    (l_given_offsets : K.lookup x_given_offsets = some ⟨oc_given_offsets, od_given_offsets, .func (PySem.W.fnOf "given_offsets" "given_offsets" (defArgs s_given_offsets) (defBody s_given_offsets) (defScope s_given_offsets) .none kV_given_offsets dc_given_offsets pm_given_offsets an_given_offsets cd_given_offsets ct_given_offsets), sl_given_offsets⟩)
    (c_given_offsets : PySem.W.codeIn K cd_given_offsets "given_offsets" = true)
    (k_given_offsets : PySem.W.keepIn K (.ref x_given_offsets) = true)
    {x_step_offset : Addr} {od_step_offset an_step_offset : Option Addr} {sl_step_offset : Array (Option Value)} {oc_step_offset dc_step_offset pm_step_offset cd_step_offset ct_step_offset : Value}
    {kV_step_offset : Value}
    (a_step_offset : PySem.W.nsIn K mainGlobals "step_offset" = some (some (.ref x_step_offset)))
    (l_step_offset : K.lookup x_step_offset = some ⟨oc_step_offset, od_step_offset, .func (PySem.W.fnOf "step_offset" "step_offset" (defArgs s_step_offset) (defBody s_step_offset) (defScope s_step_offset) .none kV_step_offset dc_step_offset pm_step_offset an_step_offset cd_step_offset ct_step_offset), sl_step_offset⟩)
    (c_step_offset : PySem.W.codeIn K cd_step_offset "step_offset" = true)
    (k_step_offset : PySem.W.keepIn K (.ref x_step_offset) = true)
    {x_greatest_spoil : Addr} {od_greatest_spoil an_greatest_spoil : Option Addr} {sl_greatest_spoil : Array (Option Value)} {oc_greatest_spoil dc_greatest_spoil pm_greatest_spoil cd_greatest_spoil ct_greatest_spoil : Value}
    {kV_greatest_spoil : Value}
    (a_greatest_spoil : PySem.W.nsIn K mainGlobals "greatest_spoil" = some (some (.ref x_greatest_spoil)))
    (l_greatest_spoil : K.lookup x_greatest_spoil = some ⟨oc_greatest_spoil, od_greatest_spoil, .func (PySem.W.fnOf "greatest_spoil" "greatest_spoil" (defArgs s_greatest_spoil) (defBody s_greatest_spoil) (defScope s_greatest_spoil) .none kV_greatest_spoil dc_greatest_spoil pm_greatest_spoil an_greatest_spoil cd_greatest_spoil ct_greatest_spoil), sl_greatest_spoil⟩)
    (c_greatest_spoil : PySem.W.codeIn K cd_greatest_spoil "greatest_spoil" = true)
    (k_greatest_spoil : PySem.W.keepIn K (.ref x_greatest_spoil) = true)
    {x_spoil_table : Addr} {od_spoil_table an_spoil_table : Option Addr} {sl_spoil_table : Array (Option Value)} {oc_spoil_table dc_spoil_table pm_spoil_table cd_spoil_table ct_spoil_table : Value}
    {kV_spoil_table : Value}
    (a_spoil_table : PySem.W.nsIn K mainGlobals "spoil_table" = some (some (.ref x_spoil_table)))
    (l_spoil_table : K.lookup x_spoil_table = some ⟨oc_spoil_table, od_spoil_table, .func (PySem.W.fnOf "spoil_table" "spoil_table" (defArgs s_spoil_table) (defBody s_spoil_table) (defScope s_spoil_table) .none kV_spoil_table dc_spoil_table pm_spoil_table an_spoil_table cd_spoil_table ct_spoil_table), sl_spoil_table⟩)
    (c_spoil_table : PySem.W.codeIn K cd_spoil_table "spoil_table" = true)
    (k_spoil_table : PySem.W.keepIn K (.ref x_spoil_table) = true)
    {x_best_row : Addr} {od_best_row an_best_row : Option Addr} {sl_best_row : Array (Option Value)} {oc_best_row dc_best_row pm_best_row cd_best_row ct_best_row : Value}
    {kV_best_row : Value}
    (a_best_row : PySem.W.nsIn K mainGlobals "best_row" = some (some (.ref x_best_row)))
    (l_best_row : K.lookup x_best_row = some ⟨oc_best_row, od_best_row, .func (PySem.W.fnOf "best_row" "best_row" (defArgs s_best_row) (defBody s_best_row) (defScope s_best_row) .none kV_best_row dc_best_row pm_best_row an_best_row cd_best_row ct_best_row), sl_best_row⟩)
    (c_best_row : PySem.W.codeIn K cd_best_row "best_row" = true)
    (k_best_row : PySem.W.keepIn K (.ref x_best_row) = true)
    {x_pulls_alone : Addr} {od_pulls_alone an_pulls_alone : Option Addr} {sl_pulls_alone : Array (Option Value)} {oc_pulls_alone dc_pulls_alone pm_pulls_alone cd_pulls_alone ct_pulls_alone : Value}
    {kV_pulls_alone : Value}
    (a_pulls_alone : PySem.W.nsIn K mainGlobals "pulls_alone" = some (some (.ref x_pulls_alone)))
    (l_pulls_alone : K.lookup x_pulls_alone = some ⟨oc_pulls_alone, od_pulls_alone, .func (PySem.W.fnOf "pulls_alone" "pulls_alone" (defArgs s_pulls_alone) (defBody s_pulls_alone) (defScope s_pulls_alone) .none kV_pulls_alone dc_pulls_alone pm_pulls_alone an_pulls_alone cd_pulls_alone ct_pulls_alone), sl_pulls_alone⟩)
    (c_pulls_alone : PySem.W.codeIn K cd_pulls_alone "pulls_alone" = true)
    (k_pulls_alone : PySem.W.keepIn K (.ref x_pulls_alone) = true)
    {x_pulls_behind_shy : Addr} {od_pulls_behind_shy an_pulls_behind_shy : Option Addr} {sl_pulls_behind_shy : Array (Option Value)} {oc_pulls_behind_shy dc_pulls_behind_shy pm_pulls_behind_shy cd_pulls_behind_shy ct_pulls_behind_shy : Value}
    {kV_pulls_behind_shy : Value}
    (a_pulls_behind_shy : PySem.W.nsIn K mainGlobals "pulls_behind_shy" = some (some (.ref x_pulls_behind_shy)))
    (l_pulls_behind_shy : K.lookup x_pulls_behind_shy = some ⟨oc_pulls_behind_shy, od_pulls_behind_shy, .func (PySem.W.fnOf "pulls_behind_shy" "pulls_behind_shy" (defArgs s_pulls_behind_shy) (defBody s_pulls_behind_shy) (defScope s_pulls_behind_shy) .none kV_pulls_behind_shy dc_pulls_behind_shy pm_pulls_behind_shy an_pulls_behind_shy cd_pulls_behind_shy ct_pulls_behind_shy), sl_pulls_behind_shy⟩)
    (c_pulls_behind_shy : PySem.W.codeIn K cd_pulls_behind_shy "pulls_behind_shy" = true)
    (k_pulls_behind_shy : PySem.W.keepIn K (.ref x_pulls_behind_shy) = true)
    {x_plain_pulls_needed : Addr} {od_plain_pulls_needed an_plain_pulls_needed : Option Addr} {sl_plain_pulls_needed : Array (Option Value)} {oc_plain_pulls_needed dc_plain_pulls_needed pm_plain_pulls_needed cd_plain_pulls_needed ct_plain_pulls_needed : Value}
    {kV_plain_pulls_needed : Value}
    (a_plain_pulls_needed : PySem.W.nsIn K mainGlobals "plain_pulls_needed" = some (some (.ref x_plain_pulls_needed)))
    (l_plain_pulls_needed : K.lookup x_plain_pulls_needed = some ⟨oc_plain_pulls_needed, od_plain_pulls_needed, .func (PySem.W.fnOf "plain_pulls_needed" "plain_pulls_needed" (defArgs s_plain_pulls_needed) (defBody s_plain_pulls_needed) (defScope s_plain_pulls_needed) .none kV_plain_pulls_needed dc_plain_pulls_needed pm_plain_pulls_needed an_plain_pulls_needed cd_plain_pulls_needed ct_plain_pulls_needed), sl_plain_pulls_needed⟩)
    (c_plain_pulls_needed : PySem.W.codeIn K cd_plain_pulls_needed "plain_pulls_needed" = true)
    (k_plain_pulls_needed : PySem.W.keepIn K (.ref x_plain_pulls_needed) = true)
    {x_hinit : Addr} {od_hinit an_hinit : Option Addr} {sl_hinit : Array (Option Value)} {oc_hinit dc_hinit pm_hinit cd_hinit ct_hinit : Value}
    {kV_hinit : Value}
    (a_hinit : PySem.W.findIn K (.ref xH) "__init__" = some (some (.ref x_hinit)))
    (i_hinit : PySem.W.isFn K (.ref x_hinit) = true)
    (l_hinit : K.lookup x_hinit = some ⟨oc_hinit, od_hinit, .func (PySem.W.fnOf "__init__" "Hiding.__init__" (defArgs s_hinit) (defBody s_hinit) (defScope s_hinit) .none kV_hinit dc_hinit pm_hinit an_hinit cd_hinit ct_hinit), sl_hinit⟩)
    (c_hinit : PySem.W.codeIn K cd_hinit "Hiding.__init__" = true)
    (k_hinit : PySem.W.keepIn K (.ref x_hinit) = true)
    {x_hiter : Addr} {od_hiter an_hiter : Option Addr} {sl_hiter : Array (Option Value)} {oc_hiter dc_hiter pm_hiter cd_hiter ct_hiter : Value}
    {kV_hiter : Value}
    (a_hiter : PySem.W.findIn K (.ref xH) "__iter__" = some (some (.ref x_hiter)))
    (i_hiter : PySem.W.isFn K (.ref x_hiter) = true)
    (l_hiter : K.lookup x_hiter = some ⟨oc_hiter, od_hiter, .func (PySem.W.fnOf "__iter__" "Hiding.__iter__" (defArgs s_hiter) (defBody s_hiter) (defScope s_hiter) .none kV_hiter dc_hiter pm_hiter an_hiter cd_hiter ct_hiter), sl_hiter⟩)
    (c_hiter : PySem.W.codeIn K cd_hiter "Hiding.__iter__" = true)
    (k_hiter : PySem.W.keepIn K (.ref x_hiter) = true)
    {x_hlen : Addr} {od_hlen an_hlen : Option Addr} {sl_hlen : Array (Option Value)} {oc_hlen dc_hlen pm_hlen cd_hlen ct_hlen : Value}
    {kV_hlen : Value}
    (a_hlen : PySem.W.findIn K (.ref xH) "__len__" = some (some (.ref x_hlen)))
    (i_hlen : PySem.W.isFn K (.ref x_hlen) = true)
    (l_hlen : K.lookup x_hlen = some ⟨oc_hlen, od_hlen, .func (PySem.W.fnOf "__len__" "Hiding.__len__" (defArgs s_hlen) (defBody s_hlen) (defScope s_hlen) .none kV_hlen dc_hlen pm_hlen an_hlen cd_hlen ct_hlen), sl_hlen⟩)
    (c_hlen : PySem.W.codeIn K cd_hlen "Hiding.__len__" = true)
    (k_hlen : PySem.W.keepIn K (.ref x_hlen) = true)
    {x_hidden : Addr} {od_hidden an_hidden : Option Addr} {sl_hidden : Array (Option Value)} {oc_hidden dc_hidden pm_hidden cd_hidden ct_hidden : Value}
    {xD1 : Addr} {tD1 : Tok}
    (a_hidden : PySem.W.nsIn K mainGlobals "hidden" = some (some (.ref x_hidden)))
    (l_hidden : K.lookup x_hidden = some ⟨oc_hidden, od_hidden, .func (PySem.W.fnOf "hidden" "hidden" (defArgs s_hidden) (defBody s_hidden) (defScope s_hidden) .none (.ref xD1) dc_hidden pm_hidden an_hidden cd_hidden ct_hidden), sl_hidden⟩)
    (c_hidden : PySem.W.codeIn K cd_hidden "hidden" = true)
    (k_hidden : PySem.W.keepIn K (.ref x_hidden) = true)
    (e_hidden : PySem.W.nsIn K xD1 "hear" = some (some (.int 1 tD1)))
    {x_hiding_of : Addr} {od_hiding_of an_hiding_of : Option Addr} {sl_hiding_of : Array (Option Value)} {oc_hiding_of dc_hiding_of pm_hiding_of cd_hiding_of ct_hiding_of : Value}
    {kV_hiding_of : Value}
    (a_hiding_of : PySem.W.nsIn K mainGlobals "hiding_of" = some (some (.ref x_hiding_of)))
    (l_hiding_of : K.lookup x_hiding_of = some ⟨oc_hiding_of, od_hiding_of, .func (PySem.W.fnOf "hiding_of" "hiding_of" (defArgs s_hiding_of) (defBody s_hiding_of) (defScope s_hiding_of) .none kV_hiding_of dc_hiding_of pm_hiding_of an_hiding_of cd_hiding_of ct_hiding_of), sl_hiding_of⟩)
    (c_hiding_of : PySem.W.codeIn K cd_hiding_of "hiding_of" = true)
    (k_hiding_of : PySem.W.keepIn K (.ref x_hiding_of) = true)
    {x_pulls_on_plain : Addr} {od_pulls_on_plain an_pulls_on_plain : Option Addr} {sl_pulls_on_plain : Array (Option Value)} {oc_pulls_on_plain dc_pulls_on_plain pm_pulls_on_plain cd_pulls_on_plain ct_pulls_on_plain : Value}
    {kV_pulls_on_plain : Value}
    (a_pulls_on_plain : PySem.W.nsIn K mainGlobals "pulls_on_plain" = some (some (.ref x_pulls_on_plain)))
    (l_pulls_on_plain : K.lookup x_pulls_on_plain = some ⟨oc_pulls_on_plain, od_pulls_on_plain, .func (PySem.W.fnOf "pulls_on_plain" "pulls_on_plain" (defArgs s_pulls_on_plain) (defBody s_pulls_on_plain) (defScope s_pulls_on_plain) .none kV_pulls_on_plain dc_pulls_on_plain pm_pulls_on_plain an_pulls_on_plain cd_pulls_on_plain ct_pulls_on_plain), sl_pulls_on_plain⟩)
    (c_pulls_on_plain : PySem.W.codeIn K cd_pulls_on_plain "pulls_on_plain" = true)
    (k_pulls_on_plain : PySem.W.keepIn K (.ref x_pulls_on_plain) = true)
    {x_plain_pulls : Addr} {od_plain_pulls an_plain_pulls : Option Addr} {sl_plain_pulls : Array (Option Value)} {oc_plain_pulls dc_plain_pulls pm_plain_pulls cd_plain_pulls ct_plain_pulls : Value}
    {kV_plain_pulls : Value}
    (a_plain_pulls : PySem.W.nsIn K mainGlobals "plain_pulls" = some (some (.ref x_plain_pulls)))
    (l_plain_pulls : K.lookup x_plain_pulls = some ⟨oc_plain_pulls, od_plain_pulls, .func (PySem.W.fnOf "plain_pulls" "plain_pulls" (defArgs s_plain_pulls) (defBody s_plain_pulls) (defScope s_plain_pulls) .none kV_plain_pulls dc_plain_pulls pm_plain_pulls an_plain_pulls cd_plain_pulls ct_plain_pulls), sl_plain_pulls⟩)
    (c_plain_pulls : PySem.W.codeIn K cd_plain_pulls "plain_pulls" = true)
    (k_plain_pulls : PySem.W.keepIn K (.ref x_plain_pulls) = true)
    {x_pulls_on_shy : Addr} {od_pulls_on_shy an_pulls_on_shy : Option Addr} {sl_pulls_on_shy : Array (Option Value)} {oc_pulls_on_shy dc_pulls_on_shy pm_pulls_on_shy cd_pulls_on_shy ct_pulls_on_shy : Value}
    {kV_pulls_on_shy : Value}
    (a_pulls_on_shy : PySem.W.nsIn K mainGlobals "pulls_on_shy" = some (some (.ref x_pulls_on_shy)))
    (l_pulls_on_shy : K.lookup x_pulls_on_shy = some ⟨oc_pulls_on_shy, od_pulls_on_shy, .func (PySem.W.fnOf "pulls_on_shy" "pulls_on_shy" (defArgs s_pulls_on_shy) (defBody s_pulls_on_shy) (defScope s_pulls_on_shy) .none kV_pulls_on_shy dc_pulls_on_shy pm_pulls_on_shy an_pulls_on_shy cd_pulls_on_shy ct_pulls_on_shy), sl_pulls_on_shy⟩)
    (c_pulls_on_shy : PySem.W.codeIn K cd_pulls_on_shy "pulls_on_shy" = true)
    (k_pulls_on_shy : PySem.W.keepIn K (.ref x_pulls_on_shy) = true)
    {x_check_page : Addr} {od_check_page an_check_page : Option Addr} {sl_check_page : Array (Option Value)} {oc_check_page dc_check_page pm_check_page cd_check_page ct_check_page : Value}
    {kV_check_page : Value}
    (a_check_page : PySem.W.nsIn K mainGlobals "check_page" = some (some (.ref x_check_page)))
    (l_check_page : K.lookup x_check_page = some ⟨oc_check_page, od_check_page, .func (PySem.W.fnOf "check_page" "check_page" (defArgs s_check_page) (defBody s_check_page) (defScope s_check_page) .none kV_check_page dc_check_page pm_check_page an_check_page cd_check_page ct_check_page), sl_check_page⟩)
    (c_check_page : PySem.W.codeIn K cd_check_page "check_page" = true)
    (k_check_page : PySem.W.keepIn K (.ref x_check_page) = true)
    {x_others_of : Addr} {od_others_of an_others_of : Option Addr} {sl_others_of : Array (Option Value)} {oc_others_of dc_others_of pm_others_of cd_others_of ct_others_of : Value}
    {kV_others_of : Value}
    (a_others_of : PySem.W.nsIn K mainGlobals "others_of" = some (some (.ref x_others_of)))
    (l_others_of : K.lookup x_others_of = some ⟨oc_others_of, od_others_of, .func (PySem.W.fnOf "others_of" "others_of" (defArgs s_others_of) (defBody s_others_of) (defScope s_others_of) .none kV_others_of dc_others_of pm_others_of an_others_of cd_others_of ct_others_of), sl_others_of⟩)
    (c_others_of : PySem.W.codeIn K cd_others_of "others_of" = true)
    (k_others_of : PySem.W.keepIn K (.ref x_others_of) = true)
    {x_who_hides : Addr} {od_who_hides an_who_hides : Option Addr} {sl_who_hides : Array (Option Value)} {oc_who_hides dc_who_hides pm_who_hides cd_who_hides ct_who_hides : Value}
    {xD2 : Addr} {tD2 : Tok}
    (a_who_hides : PySem.W.nsIn K mainGlobals "who_hides" = some (some (.ref x_who_hides)))
    (l_who_hides : K.lookup x_who_hides = some ⟨oc_who_hides, od_who_hides, .func (PySem.W.fnOf "who_hides" "who_hides" (defArgs s_who_hides) (defBody s_who_hides) (defScope s_who_hides) .none (.ref xD2) dc_who_hides pm_who_hides an_who_hides cd_who_hides ct_who_hides), sl_who_hides⟩)
    (c_who_hides : PySem.W.codeIn K cd_who_hides "who_hides" = true)
    (k_who_hides : PySem.W.keepIn K (.ref x_who_hides) = true)
    (e_who_hides : PySem.W.nsIn K xD2 "hear" = some (some (.int 1 tD2)))
    {x_is_hidden_by : Addr} {od_is_hidden_by an_is_hidden_by : Option Addr} {sl_is_hidden_by : Array (Option Value)} {oc_is_hidden_by dc_is_hidden_by pm_is_hidden_by cd_is_hidden_by ct_is_hidden_by : Value}
    {kV_is_hidden_by : Value}
    (a_is_hidden_by : PySem.W.nsIn K mainGlobals "is_hidden_by" = some (some (.ref x_is_hidden_by)))
    (l_is_hidden_by : K.lookup x_is_hidden_by = some ⟨oc_is_hidden_by, od_is_hidden_by, .func (PySem.W.fnOf "is_hidden_by" "is_hidden_by" (defArgs s_is_hidden_by) (defBody s_is_hidden_by) (defScope s_is_hidden_by) .none kV_is_hidden_by dc_is_hidden_by pm_is_hidden_by an_is_hidden_by cd_is_hidden_by ct_is_hidden_by), sl_is_hidden_by⟩)
    (c_is_hidden_by : PySem.W.codeIn K cd_is_hidden_by "is_hidden_by" = true)
    (k_is_hidden_by : PySem.W.keepIn K (.ref x_is_hidden_by) = true)
    {x_first_hidden : Addr} {od_first_hidden an_first_hidden : Option Addr} {sl_first_hidden : Array (Option Value)} {oc_first_hidden dc_first_hidden pm_first_hidden cd_first_hidden ct_first_hidden : Value}
    {xD4 : Addr} {tD4 : Tok}
    (a_first_hidden : PySem.W.nsIn K mainGlobals "first_hidden" = some (some (.ref x_first_hidden)))
    (l_first_hidden : K.lookup x_first_hidden = some ⟨oc_first_hidden, od_first_hidden, .func (PySem.W.fnOf "first_hidden" "first_hidden" (defArgs s_first_hidden) (defBody s_first_hidden) (defScope s_first_hidden) .none (.ref xD4) dc_first_hidden pm_first_hidden an_first_hidden cd_first_hidden ct_first_hidden), sl_first_hidden⟩)
    (c_first_hidden : PySem.W.codeIn K cd_first_hidden "first_hidden" = true)
    (k_first_hidden : PySem.W.keepIn K (.ref x_first_hidden) = true)
    (e_first_hidden : PySem.W.nsIn K xD4 "hear" = some (some (.int 1 tD4)))
    {x_hiding_page : Addr} {od_hiding_page an_hiding_page : Option Addr} {sl_hiding_page : Array (Option Value)} {oc_hiding_page dc_hiding_page pm_hiding_page cd_hiding_page ct_hiding_page : Value}
    {xD3 : Addr} {tD3 : Tok}
    (a_hiding_page : PySem.W.nsIn K mainGlobals "hiding_page" = some (some (.ref x_hiding_page)))
    (l_hiding_page : K.lookup x_hiding_page = some ⟨oc_hiding_page, od_hiding_page, .func (PySem.W.fnOf "hiding_page" "hiding_page" (defArgs s_hiding_page) (defBody s_hiding_page) (defScope s_hiding_page) .none (.ref xD3) dc_hiding_page pm_hiding_page an_hiding_page cd_hiding_page ct_hiding_page), sl_hiding_page⟩)
    (c_hiding_page : PySem.W.codeIn K cd_hiding_page "hiding_page" = true)
    (k_hiding_page : PySem.W.keepIn K (.ref x_hiding_page) = true)
    (e_hiding_page : PySem.W.nsIn K xD3 "hear" = some (some (.int 1 tD3)))
    {x_open : Addr} {od_open an_open : Option Addr} {sl_open : Array (Option Value)} {oc_open dc_open pm_open cd_open ct_open : Value}
    {kV_open : Value}
    (a_open : PySem.W.nsIn K mainGlobals "_law_open" = some (some (.ref x_open)))
    (l_open : K.lookup x_open = some ⟨oc_open, od_open, .func (PySem.W.fnOf "_law_open" "_law_open" (defArgs s_open) (defBody s_open) (defScope s_open) .none kV_open dc_open pm_open an_open cd_open ct_open), sl_open⟩)
    (c_open : PySem.W.codeIn K cd_open "_law_open" = true)
    (k_open : PySem.W.keepIn K (.ref x_open) = true)
    {x_draw : Addr} {od_draw an_draw : Option Addr} {sl_draw : Array (Option Value)} {oc_draw dc_draw pm_draw cd_draw ct_draw : Value}
    {kV_draw : Value}
    (a_draw : PySem.W.nsIn K mainGlobals "_law_draw" = some (some (.ref x_draw)))
    (l_draw : K.lookup x_draw = some ⟨oc_draw, od_draw, .func (PySem.W.fnOf "_law_draw" "_law_draw" (defArgs s_draw) (defBody s_draw) (defScope s_draw) .none kV_draw dc_draw pm_draw an_draw cd_draw ct_draw), sl_draw⟩)
    (c_draw : PySem.W.codeIn K cd_draw "_law_draw" = true)
    (k_draw : PySem.W.keepIn K (.ref x_draw) = true)
    {x_wwhole : Addr} {od_wwhole an_wwhole : Option Addr} {sl_wwhole : Array (Option Value)} {oc_wwhole dc_wwhole pm_wwhole cd_wwhole ct_wwhole : Value}
    {kV_wwhole : Value}
    (a_wwhole : PySem.W.nsIn K mainGlobals "_law_whole" = some (some (.ref x_wwhole)))
    (l_wwhole : K.lookup x_wwhole = some ⟨oc_wwhole, od_wwhole, .func (PySem.W.fnOf "_law_whole" "_law_whole" (defArgs s_wwhole) (defBody s_wwhole) (defScope s_wwhole) .none kV_wwhole dc_wwhole pm_wwhole an_wwhole cd_wwhole ct_wwhole), sl_wwhole⟩)
    (c_wwhole : PySem.W.codeIn K cd_wwhole "_law_whole" = true)
    (k_wwhole : PySem.W.keepIn K (.ref x_wwhole) = true)
    {x_number : Addr} {od_number an_number : Option Addr} {sl_number : Array (Option Value)} {oc_number dc_number pm_number cd_number ct_number : Value}
    {kV_number : Value}
    (a_number : PySem.W.nsIn K mainGlobals "_law_number" = some (some (.ref x_number)))
    (l_number : K.lookup x_number = some ⟨oc_number, od_number, .func (PySem.W.fnOf "_law_number" "_law_number" (defArgs s_number) (defBody s_number) (defScope s_number) .none kV_number dc_number pm_number an_number cd_number ct_number), sl_number⟩)
    (c_number : PySem.W.codeIn K cd_number "_law_number" = true)
    (k_number : PySem.W.keepIn K (.ref x_number) = true)
    {x_sends : Addr} {od_sends an_sends : Option Addr} {sl_sends : Array (Option Value)} {oc_sends dc_sends pm_sends cd_sends ct_sends : Value}
    {kV_sends : Value}
    (a_sends : PySem.W.nsIn K mainGlobals "_law_sends" = some (some (.ref x_sends)))
    (l_sends : K.lookup x_sends = some ⟨oc_sends, od_sends, .func (PySem.W.fnOf "_law_sends" "_law_sends" (defArgs s_sends) (defBody s_sends) (defScope s_sends) .none kV_sends dc_sends pm_sends an_sends cd_sends ct_sends), sl_sends⟩)
    (c_sends : PySem.W.codeIn K cd_sends "_law_sends" = true)
    (k_sends : PySem.W.keepIn K (.ref x_sends) = true)
    {x_wire : Addr} {od_wire an_wire : Option Addr} {sl_wire : Array (Option Value)} {oc_wire dc_wire pm_wire cd_wire ct_wire : Value}
    {kV_wire : Value}
    (a_wire : PySem.W.nsIn K mainGlobals "_law_wire" = some (some (.ref x_wire)))
    (l_wire : K.lookup x_wire = some ⟨oc_wire, od_wire, .func (PySem.W.fnOf "_law_wire" "_law_wire" (defArgs s_wire) (defBody s_wire) (defScope s_wire) .none kV_wire dc_wire pm_wire an_wire cd_wire ct_wire), sl_wire⟩)
    (c_wire : PySem.W.codeIn K cd_wire "_law_wire" = true)
    (k_wire : PySem.W.keepIn K (.ref x_wire) = true)
    {x_line : Addr} {od_line an_line : Option Addr} {sl_line : Array (Option Value)} {oc_line dc_line pm_line cd_line ct_line : Value}
    {kV_line : Value}
    (a_line : PySem.W.nsIn K mainGlobals "_law_line" = some (some (.ref x_line)))
    (l_line : K.lookup x_line = some ⟨oc_line, od_line, .func (PySem.W.fnOf "_law_line" "_law_line" (defArgs s_line) (defBody s_line) (defScope s_line) .none kV_line dc_line pm_line an_line cd_line ct_line), sl_line⟩)
    (c_line : PySem.W.codeIn K cd_line "_law_line" = true)
    (k_line : PySem.W.keepIn K (.ref x_line) = true)
    {x_row_told : Addr} {od_row_told an_row_told : Option Addr} {sl_row_told : Array (Option Value)} {oc_row_told dc_row_told pm_row_told cd_row_told ct_row_told : Value}
    {kV_row_told : Value}
    (a_row_told : PySem.W.nsIn K mainGlobals "_law_row_told" = some (some (.ref x_row_told)))
    (l_row_told : K.lookup x_row_told = some ⟨oc_row_told, od_row_told, .func (PySem.W.fnOf "_law_row_told" "_law_row_told" (defArgs s_row_told) (defBody s_row_told) (defScope s_row_told) .none kV_row_told dc_row_told pm_row_told an_row_told cd_row_told ct_row_told), sl_row_told⟩)
    (c_row_told : PySem.W.codeIn K cd_row_told "_law_row_told" = true)
    (k_row_told : PySem.W.keepIn K (.ref x_row_told) = true)
    {x_law : Addr} {od_law an_law : Option Addr} {sl_law : Array (Option Value)} {oc_law dc_law pm_law cd_law ct_law : Value}
    {kV_law : Value}
    (a_law : PySem.W.nsIn K mainGlobals "law" = some (some (.ref x_law)))
    (l_law : K.lookup x_law = some ⟨oc_law, od_law, .func (PySem.W.fnOf "law" "law" (defArgs s_law) (defBody s_law) (defScope s_law) .none kV_law dc_law pm_law an_law cd_law ct_law), sl_law⟩)
    (c_law : PySem.W.codeIn K cd_law "law" = true)
    (k_law : PySem.W.keepIn K (.ref x_law) = true)
    (pg : PySem.W.plainGet K xC Str.empty = true)
    (hd : PySem.W.hasDictIn K xC = true)
    (po : PySem.W.plainOver K xC = true)
    (sa : PySem.W.findIn K (.ref xC) "__setattr__" = some (some (.builtin "object.__setattr__")))
    (mk : PySem.W.makesIn K xC = true)
    (kc : PySem.W.keepIn K (.ref xC) = true)
    (nO : PySem.W.findIn K (.ref xC) "offsets" = some none)
    (pgW : PySem.W.plainGet K xW Str.empty = true)
    (hdW : PySem.W.hasDictIn K xW = true)
    (poW : PySem.W.plainOver K xW = true)
    (saW : PySem.W.findIn K (.ref xW) "__setattr__" = some (some (.builtin "object.__setattr__")))
    (mkW : PySem.W.makesIn K xW = true)
    (kcW : PySem.W.keepIn K (.ref xW) = true)
    (rdW : PySem.W.readsIn K xW (.type "type") = true)
    (gaW : PySem.W.specialIn K (.ref xW) "__getattribute__" = some (some (.builtin "type.__getattribute__")))
    (pgHC : PySem.W.plainGet K xH Str.empty = true)
    (hdHC : PySem.W.hasDictIn K xH = true)
    (poHC : PySem.W.plainOver K xH = true)
    (saHC : PySem.W.findIn K (.ref xH) "__setattr__" = some (some (.builtin "object.__setattr__")))
    (mkHC : PySem.W.makesIn K xH = true)
    (kcHC : PySem.W.keepIn K (.ref xH) = true)
    (nN : PySem.W.findIn K (.ref xH) "number" = some none)
    (nB : PySem.W.findIn K (.ref xH) "box_sort" = some none)
    (nP : PySem.W.findIn K (.ref xH) "pulls" = some none)
    (icaHC : PySem.W.findIn K (.ref xH) "__class__" = some (some (.builtin "object.__class__")))
    (icnHC : PySem.W.specialIn K (.builtin "object.__class__") "__get__" = some (some (.builtin "getset_descriptor.__get__")))
    (ictHC : PySem.W.takesIn K (.builtin "object.__class__") = some true)
    (icmHC : PySem.W.mroIn K xH (.type "object") = some true)
    (kSHC : PySem.W.kitOne K (.ref xH) (.ref xH) = some true)
    {tP tS : Tok}
    (vP : PySem.W.findCls K (.ref xW) (.type "type") "PLAIN" = some (.val (.str "plain" tP)))
    (vS : PySem.W.findCls K (.ref xW) (.type "type") "SHY" = some (.val (.str "shy" tS)))
    {eCX eIX : Addr} {enmX eqX : Str} {eNX : Addr} {ebsX ebmX : List Value} {esnX : List Str} {esubX : List Value} {eabX : Bool} {ecolX : Option Bool} {eddX : Option Addr} {em0X em1X em2X em3X em5X : Option Value}
    {eocX edcX epmX ecdX ectX : Value} {eodX eanX : Option Addr} {eslX : Array (Option Value)} {ep1X ep2X eq1X eq2X eq3X eq4X : Pos}
    (e_aX : PySem.W.nsIn K mainGlobals "BadNumber" = some (some (.ref eCX)))
    (e_xX : K.lookup eCX = some (excClassObj enmX eqX eCX eNX ebsX ebmX true esnX esubX eabX ecolX eddX em0X em1X em2X em3X em5X "ValueError.__new__"))
    (e_bX : PySem.HandSPX.refsVE ebmX = true)
    (e_sX : PySem.W.findIn K (.ref eCX) "__setattr__" = some (some (.builtin "object.__setattr__"))) (e_gX : PySem.W.findIn K (.ref eCX) "__getattribute__" = some (some (.builtin "BaseException.__getattribute__"))) (e_hX : PySem.W.findIn K (.ref eCX) "__getattr__" = some none) (e_nX : PySem.W.findIn K (.ref eCX) "number" = some none)
    (e_iX : PySem.W.findIn K (.ref eCX) "__init__" = some (some (.ref eIX))) (e_tX : PySem.W.typeIn K (.ref eIX) = some (.type "function"))
    (e_lX : K.lookup eIX = some ⟨eocX, eodX, .func (PySem.W.fnOf "__init__" "BadNumber.__init__" (PySem.LowX.iA ep1X ep2X) (PySem.LowX.iB eq1X eq2X eq3X eq4X) PySem.LowX.iS .none .none edcX epmX eanX ecdX ectX), eslX⟩) (e_cX : PySem.W.codeIn K ecdX "BadNumber.__init__" = true)
    (e_kX : PySem.W.keepIn K (.ref eCX) = true) (e_eX : PySem.W.subIn K (.ref eCX) (.type "BaseException") = some true) (e_tyX : PySem.W.typeIn K (.ref eCX) = some (.type "type")) (e_dX : PySem.W.hasDictIn K eCX = true) (e_scX : PySem.W.subIn K (.ref eCX) (.ref eCX) = some true)
    {t_DIGITS : Tok}
    (n_DIGITS : PySem.W.nsIn K mainGlobals "DIGITS" = some (some (.str "123456789" t_DIGITS)))
    {t_MOST_DIGITS : Tok}
    (n_MOST_DIGITS : PySem.W.nsIn K mainGlobals "MOST_DIGITS" = some (some (.int 4 t_MOST_DIGITS)))
    {t_GREATEST_SUM : Tok}
    (n_GREATEST_SUM : PySem.W.nsIn K mainGlobals "GREATEST_SUM" = some (some (.int 24 t_GREATEST_SUM)))
    {t_CLOSED_END : Tok}
    (n_CLOSED_END : PySem.W.nsIn K mainGlobals "CLOSED_END" = some (some (.int 5 t_CLOSED_END)))
    {t_MOST_ROUNDS : Tok}
    (n_MOST_ROUNDS : PySem.W.nsIn K mainGlobals "MOST_ROUNDS" = some (some (.int 8 t_MOST_ROUNDS)))
    {t_MOST_ON_WIRE : Tok}
    (n_MOST_ON_WIRE : PySem.W.nsIn K mainGlobals "MOST_ON_WIRE" = some (some (.int 30 t_MOST_ON_WIRE)))
    {t_WAIT : Tok}
    (n_WAIT : PySem.W.nsIn K mainGlobals "WAIT" = some (some (.int 3 t_WAIT)))
    (z_abs : PySem.W.nsIn K mainGlobals "abs" = some none)
    (z_all : PySem.W.nsIn K mainGlobals "all" = some none)
    (z_bool : PySem.W.nsIn K mainGlobals "bool" = some none)
    (z_enumerate : PySem.W.nsIn K mainGlobals "enumerate" = some none)
    (z_int : PySem.W.nsIn K mainGlobals "int" = some none)
    (z_isinstance : PySem.W.nsIn K mainGlobals "isinstance" = some none)
    (z_iter : PySem.W.nsIn K mainGlobals "iter" = some none)
    (z_len : PySem.W.nsIn K mainGlobals "len" = some none)
    (z_list : PySem.W.nsIn K mainGlobals "list" = some none)
    (z_max : PySem.W.nsIn K mainGlobals "max" = some none)
    (z_min : PySem.W.nsIn K mainGlobals "min" = some none)
    (z_range : PySem.W.nsIn K mainGlobals "range" = some none)
    (z_set : PySem.W.nsIn K mainGlobals "set" = some none)
    (z_sorted : PySem.W.nsIn K mainGlobals "sorted" = some none)
    (z_str : PySem.W.nsIn K mainGlobals "str" = some none)
    (z_sum : PySem.W.nsIn K mainGlobals "sum" = some none)
    (z_tuple : PySem.W.nsIn K mainGlobals "tuple" = some none)
    : ∃ fd : FuncData, (∀ (s : Shared) (v : Value), BindsTo s fd ⟨[v], []⟩ [("_law_script", v)]) ∧ ∀ base : Heap, K.In base → base.Ns mainGlobals mg → FnOk l.prog w K mg base CX0 15 fa fd ["_law_script"] (sp_law K) := by
  have e := hfa.symm.trans (PySem.W.mg_of X G a_law)
  cases e
  have F_is_whole := fun_mk (st := s_is_whole) l_is_whole c_is_whole k_is_whole
  have b_is_whole := F_is_whole.binds (ps := ["thing"]) fun _ _ _ _ _ _ us hl => match us, hl with | [_], _ => rfl
  have F_is_whole_within := fun_mk (st := s_is_whole_within) l_is_whole_within c_is_whole_within k_is_whole_within
  have b_is_whole_within := F_is_whole_within.binds (ps := ["thing", "low", "high"]) fun _ _ _ _ _ _ us hl => match us, hl with | [_, _, _], _ => rfl
  have F_is_sequence := fun_mk (st := s_is_sequence) l_is_sequence c_is_sequence k_is_sequence
  have b_is_sequence := F_is_sequence.binds (ps := ["thing"]) fun _ _ _ _ _ _ us hl => match us, hl with | [_], _ => rfl
  have F_is_number := fun_mk (st := s_is_number) l_is_number c_is_number k_is_number
  have b_is_number := F_is_number.binds (ps := ["thing"]) fun _ _ _ _ _ _ us hl => match us, hl with | [_], _ => rfl
  have F_check_number := fun_mk (st := s_check_number) l_check_number c_check_number k_check_number
  have b_check_number := F_check_number.binds (ps := ["thing"]) fun _ _ _ _ _ _ us hl => match us, hl with | [_], _ => rfl
  have F_blocks := fun_mk (st := s_blocks) l_blocks c_blocks k_blocks
  have b_blocks := F_blocks.binds (ps := ["number"]) fun _ _ _ _ _ _ us hl => match us, hl with | [_], _ => rfl
  have F_row_of := fun_mk (st := s_row_of) l_row_of c_row_of k_row_of
  have b_row_of := F_row_of.binds (ps := ["number"]) fun _ _ _ _ _ _ us hl => match us, hl with | [_], _ => rfl
  have F_length_of := fun_mk (st := s_length_of) l_length_of c_length_of k_length_of
  have b_length_of := F_length_of.binds (ps := ["number"]) fun _ _ _ _ _ _ us hl => match us, hl with | [_], _ => rfl
  have F_is_sort := fun_mk (st := s_is_sort) l_is_sort c_is_sort k_is_sort
  have b_is_sort := F_is_sort.binds (ps := ["thing"]) fun _ _ _ _ _ _ us hl => match us, hl with | [_], _ => rfl
  have F_is_box := fun_mk (st := s_is_box) l_is_box c_is_box k_is_box
  have b_is_box := F_is_box.binds (ps := ["thing"]) fun _ _ _ _ _ _ us hl => match us, hl with | [_], _ => rfl
  have F_has_double := fun_mk (st := s_has_double) l_has_double c_has_double k_has_double
  have b_has_double := F_has_double.binds (ps := ["boxes"]) fun _ _ _ _ _ _ us hl => match us, hl with | [_], _ => rfl
  have F_are_boxes := fun_mk (st := s_are_boxes) l_are_boxes c_are_boxes k_are_boxes
  have b_are_boxes := F_are_boxes.binds (ps := ["thing", "least", "most"]) fun _ _ _ _ _ _ us hl => match us, hl with | [_, _, _], _ => rfl
  have F_check_called := fun_mk (st := s_check_called) l_check_called c_check_called k_check_called
  have b_check_called := F_check_called.binds (ps := ["number"]) fun _ _ _ _ _ _ us hl => match us, hl with | [_], _ => rfl
  have F_check_sort := fun_mk (st := s_check_sort) l_check_sort c_check_sort k_check_sort
  have b_check_sort := F_check_sort.binds (ps := ["sort"]) fun _ _ _ _ _ _ us hl => match us, hl with | [_], _ => rfl
  have F_check_others := fun_mk (st := s_check_others) l_check_others c_check_others k_check_others
  have b_check_others := F_check_others.binds (ps := ["boxes", "number"]) fun _ _ _ _ _ _ us hl => match us, hl with | [_, _], _ => rfl
  have F_check_wire := fun_mk (st := s_check_wire) l_check_wire c_check_wire k_check_wire
  have b_check_wire := F_check_wire.binds (ps := ["boxes"]) fun _ _ _ _ _ _ us hl => match us, hl with | [_], _ => rfl
  have F_check_rounds := fun_mk (st := s_check_rounds) l_check_rounds c_check_rounds k_check_rounds
  have b_check_rounds := F_check_rounds.binds (ps := ["rounds"]) fun _ _ _ _ _ _ us hl => match us, hl with | [_], _ => rfl
  have F_check_hear := fun_mk (st := s_check_hear) l_check_hear c_check_hear k_check_hear
  have b_check_hear := F_check_hear.binds (ps := ["hear", "rounds"]) fun _ _ _ _ _ _ us hl => match us, hl with | [_, _], _ => rfl
  have F_check_offset := fun_mk (st := s_check_offset) l_check_offset c_check_offset k_check_offset
  have b_check_offset := F_check_offset.binds (ps := ["thing"]) fun _ _ _ _ _ _ us hl => match us, hl with | [_], _ => rfl
  have F_init : FunD K "__init__" "Strokes.__init__" (defArgs s_init) (defBody s_init) (defScope s_init) [V.ref xE] [] x_init _ := ⟨⟨_, _, _, _, _, _, _, _, _, _, rfl, l_init, c_init, .inr ⟨List.cons_ne_nil _ _, xT, _, [.ref xE], _, rfl, e_init, rfl, .cons rfl .nil⟩, .inl rfl⟩, k_init⟩
  have b_init := F_init.binds1 (ps := ["self", "offsets"]) 2 1 (List.cons_ne_nil _ _) rfl fun T kV doc pm an cdv ct us its h1 h2 => match us, its, h1, h2 with | [_, _], [_], _, _ => ⟨_, rfl, rfl⟩
  obtain ⟨ds_init, rd_init, b_init⟩ := b_init
  cases rd_init
  have F_iter := fun_mk (st := s_iter) l_iter c_iter k_iter
  have b_iter := F_iter.binds (ps := ["self"]) fun _ _ _ _ _ _ us hl => match us, hl with | [_], _ => rfl
  have F_strokes_of := fun_mk (st := s_strokes_of) l_strokes_of c_strokes_of k_strokes_of
  have b_strokes_of := F_strokes_of.binds (ps := ["number"]) fun _ _ _ _ _ _ us hl => match us, hl with | [_], _ => rfl
  have F_has_stroke := fun_mk (st := s_has_stroke) l_has_stroke c_has_stroke k_has_stroke
  have b_has_stroke := F_has_stroke.binds (ps := ["row", "offset", "rounds"]) fun _ _ _ _ _ _ us hl => match us, hl with | [_, _, _], _ => rfl
  have F_spoilt_rounds := fun_mk (st := s_spoilt_rounds) l_spoilt_rounds c_spoilt_rounds k_spoilt_rounds
  have b_spoilt_rounds := F_spoilt_rounds.binds (ps := ["number", "offsets", "rounds"]) fun _ _ _ _ _ _ us hl => match us, hl with | [_, _, _], _ => rfl
  have F_given_offsets := fun_mk (st := s_given_offsets) l_given_offsets c_given_offsets k_given_offsets
  have b_given_offsets := F_given_offsets.binds (ps := ["number", "other", "sort", "at", "rounds"]) fun _ _ _ _ _ _ us hl => match us, hl with | [_, _, _, _, _], _ => rfl
  have F_step_offset := fun_mk (st := s_step_offset) l_step_offset c_step_offset k_step_offset
  have b_step_offset := F_step_offset.binds (ps := ["number", "other", "at", "rounds"]) fun _ _ _ _ _ _ us hl => match us, hl with | [_, _, _, _], _ => rfl
  have F_greatest_spoil := fun_mk (st := s_greatest_spoil) l_greatest_spoil c_greatest_spoil k_greatest_spoil
  have b_greatest_spoil := F_greatest_spoil.binds (ps := ["number", "other", "sort", "rounds"]) fun _ _ _ _ _ _ us hl => match us, hl with | [_, _, _, _], _ => rfl
  have F_spoil_table := fun_mk (st := s_spoil_table) l_spoil_table c_spoil_table k_spoil_table
  have kb_spoil_table : KBn K (PySem.W.fnOf "spoil_table" "spoil_table" (defArgs s_spoil_table) (defBody s_spoil_table) (defScope s_spoil_table) .none kV_spoil_table dc_spoil_table pm_spoil_table an_spoil_table cd_spoil_table ct_spoil_table) ["number", "boxes", "rounds"] 2 ["rounds"] (fun us ws => us ++ ws) (fun vs zs => vs ++ zs) := ⟨fun s us ws X l1 l2 => match us, ws, l1, l2 with | [_, _], [_], _, _ => .of_eq rfl, fun a b => a.append b⟩
  have F_best_row := fun_mk (st := s_best_row) l_best_row c_best_row k_best_row
  have b_best_row := F_best_row.binds (ps := ["table", "sort"]) fun _ _ _ _ _ _ us hl => match us, hl with | [_, _], _ => rfl
  have F_pulls_alone := fun_mk (st := s_pulls_alone) l_pulls_alone c_pulls_alone k_pulls_alone
  have b_pulls_alone := F_pulls_alone.binds (ps := ["table", "rounds", "hear"]) fun _ _ _ _ _ _ us hl => match us, hl with | [_, _, _], _ => rfl
  have F_pulls_behind_shy := fun_mk (st := s_pulls_behind_shy) l_pulls_behind_shy c_pulls_behind_shy k_pulls_behind_shy
  have b_pulls_behind_shy := F_pulls_behind_shy.binds (ps := ["table", "rounds", "hear"]) fun _ _ _ _ _ _ us hl => match us, hl with | [_, _, _], _ => rfl
  have F_plain_pulls_needed := fun_mk (st := s_plain_pulls_needed) l_plain_pulls_needed c_plain_pulls_needed k_plain_pulls_needed
  have b_plain_pulls_needed := F_plain_pulls_needed.binds (ps := ["count", "spoilt", "rounds", "hear"]) fun _ _ _ _ _ _ us hl => match us, hl with | [_, _, _, _], _ => rfl
  have F_hinit := fun_mk (st := s_hinit) l_hinit c_hinit k_hinit
  have b_hinit := F_hinit.binds (ps := ["self", "number", "box_sort", "pulls"]) fun _ _ _ _ _ _ us hl => match us, hl with | [_, _, _, _], _ => rfl
  have F_hiter := fun_mk (st := s_hiter) l_hiter c_hiter k_hiter
  have b_hiter := F_hiter.binds (ps := ["self"]) fun _ _ _ _ _ _ us hl => match us, hl with | [_], _ => rfl
  have F_hlen := fun_mk (st := s_hlen) l_hlen c_hlen k_hlen
  have b_hlen := F_hlen.binds (ps := ["self"]) fun _ _ _ _ _ _ us hl => match us, hl with | [_], _ => rfl
  have F_hidden : FunD K "hidden" "hidden" (defArgs s_hidden) (defBody s_hidden) (defScope s_hidden) [] [("hear", V.int 1)] x_hidden _ := ⟨⟨_, _, _, _, _, _, _, _, _, _, rfl, l_hidden, c_hidden, .inl ⟨rfl, rfl⟩, .inr ⟨xD1, rfl, fun q m => by rw [List.mem_singleton.mp m]; exact ⟨_, e_hidden, ⟨_, rfl⟩⟩⟩⟩, k_hidden⟩
  have kb2_hidden := F_hidden.kbinds0 (ps := ["boxes", "number", "sort", "rounds", "hear"]) 3 ["rounds", "hear"] [] (fun vs mz zs => vs ++ zs) (by decide) (fun _ h => absurd h (by simp)) (fun a b c => a.append c) fun D doc pm an cdv ct us mv ws h1 h2 h3 => match us, mv, ws, h1, h2, h3 with | [_, _, _], [], [_, _], _, _, _ => rfl
  obtain ⟨_, kb2_hidden⟩ := kb2_hidden
  have F_hiding_of := fun_mk (st := s_hiding_of) l_hiding_of c_hiding_of k_hiding_of
  have b_hiding_of := F_hiding_of.binds (ps := ["boxes", "number", "sort", "rounds", "hear"]) fun _ _ _ _ _ _ us hl => match us, hl with | [_, _, _, _, _], _ => rfl
  have F_pulls_on_plain := fun_mk (st := s_pulls_on_plain) l_pulls_on_plain c_pulls_on_plain k_pulls_on_plain
  have b_pulls_on_plain := F_pulls_on_plain.binds (ps := ["table", "number", "rounds", "hear"]) fun _ _ _ _ _ _ us hl => match us, hl with | [_, _, _, _], _ => rfl
  have F_plain_pulls := fun_mk (st := s_plain_pulls) l_plain_pulls c_plain_pulls k_plain_pulls
  have b_plain_pulls := F_plain_pulls.binds (ps := ["row", "number", "spoilt", "many", "hear"]) fun _ _ _ _ _ _ us hl => match us, hl with | [_, _, _, _, _], _ => rfl
  have F_pulls_on_shy := fun_mk (st := s_pulls_on_shy) l_pulls_on_shy c_pulls_on_shy k_pulls_on_shy
  have b_pulls_on_shy := F_pulls_on_shy.binds (ps := ["boxes", "number", "rounds", "hear"]) fun _ _ _ _ _ _ us hl => match us, hl with | [_, _, _, _], _ => rfl
  have F_check_page := fun_mk (st := s_check_page) l_check_page c_check_page k_check_page
  have b_check_page := F_check_page.binds (ps := ["boxes", "rounds", "hear"]) fun _ _ _ _ _ _ us hl => match us, hl with | [_, _, _], _ => rfl
  have F_others_of := fun_mk (st := s_others_of) l_others_of c_others_of k_others_of
  have b_others_of := F_others_of.binds (ps := ["boxes", "number"]) fun _ _ _ _ _ _ us hl => match us, hl with | [_, _], _ => rfl
  have F_who_hides : FunD K "who_hides" "who_hides" (defArgs s_who_hides) (defBody s_who_hides) (defScope s_who_hides) [] [("hear", V.int 1)] x_who_hides _ := ⟨⟨_, _, _, _, _, _, _, _, _, _, rfl, l_who_hides, c_who_hides, .inl ⟨rfl, rfl⟩, .inr ⟨xD2, rfl, fun q m => by rw [List.mem_singleton.mp m]; exact ⟨_, e_who_hides, ⟨_, rfl⟩⟩⟩⟩, k_who_hides⟩
  have kb1_who_hides := F_who_hides.kbinds0 (ps := ["boxes", "rounds", "hear"]) 1 ["rounds"] [("hear", V.int 1)] (fun vs mz zs => vs ++ zs ++ mz) (by decide) (fun _ h => h) (fun a b c => (a.append c).append b) fun D doc pm an cdv ct us mv ws h1 h2 h3 => match us, mv, ws, h1, h2, h3 with | [_], [_], [_], _, _, _ => ⟨_, _, _, _, _, _, rfl, rfl, rfl⟩
  obtain ⟨mvW, kb1_who_hides⟩ := kb1_who_hides
  have kb2_who_hides := F_who_hides.kbinds0 (ps := ["boxes", "rounds", "hear"]) 1 ["rounds", "hear"] [] (fun vs mz zs => vs ++ zs) (by decide) (fun _ h => absurd h (by simp)) (fun a b c => a.append c) fun D doc pm an cdv ct us mv ws h1 h2 h3 => match us, mv, ws, h1, h2, h3 with | [_], [], [_, _], _, _, _ => rfl
  obtain ⟨_, kb2_who_hides⟩ := kb2_who_hides
  have F_is_hidden_by := fun_mk (st := s_is_hidden_by) l_is_hidden_by c_is_hidden_by k_is_hidden_by
  have b_is_hidden_by := F_is_hidden_by.binds (ps := ["box", "number", "sort", "rounds", "hear"]) fun _ _ _ _ _ _ us hl => match us, hl with | [_, _, _, _, _], _ => rfl
  have F_first_hidden : FunD K "first_hidden" "first_hidden" (defArgs s_first_hidden) (defBody s_first_hidden) (defScope s_first_hidden) [] [("hear", V.int 1)] x_first_hidden _ := ⟨⟨_, _, _, _, _, _, _, _, _, _, rfl, l_first_hidden, c_first_hidden, .inl ⟨rfl, rfl⟩, .inr ⟨xD4, rfl, fun q m => by rw [List.mem_singleton.mp m]; exact ⟨_, e_first_hidden, ⟨_, rfl⟩⟩⟩⟩, k_first_hidden⟩
  have kb2_first_hidden := F_first_hidden.kbinds0 (ps := ["boxes", "rounds", "hear", "most"]) 1 ["rounds", "most"] [("hear", V.int 1)] (fun vs mz zs => vs ++ zs.take 1 ++ mz ++ zs.drop 1) (by decide) (fun _ h => h) (fun a b c => ((a.append (vtake c)).append b).append (vdrop c)) fun D doc pm an cdv ct us mv ws h1 h2 h3 => match us, mv, ws, h1, h2, h3 with | [_], [_], [_, _], _, _, _ => ⟨_, _, _, _, _, _, rfl, rfl, rfl⟩
  obtain ⟨mvF, kb2_first_hidden⟩ := kb2_first_hidden
  have kb3_first_hidden := F_first_hidden.kbinds0 (ps := ["boxes", "rounds", "hear", "most"]) 1 ["rounds", "hear", "most"] [] (fun vs mz zs => vs ++ zs) (by decide) (fun _ h => absurd h (by simp)) (fun a b c => a.append c) fun D doc pm an cdv ct us mv ws h1 h2 h3 => match us, mv, ws, h1, h2, h3 with | [_], [], [_, _, _], _, _, _ => rfl
  obtain ⟨_, kb3_first_hidden⟩ := kb3_first_hidden
  have F_hiding_page : FunD K "hiding_page" "hiding_page" (defArgs s_hiding_page) (defBody s_hiding_page) (defScope s_hiding_page) [] [("hear", V.int 1)] x_hiding_page _ := ⟨⟨_, _, _, _, _, _, _, _, _, _, rfl, l_hiding_page, c_hiding_page, .inl ⟨rfl, rfl⟩, .inr ⟨xD3, rfl, fun q m => by rw [List.mem_singleton.mp m]; exact ⟨_, e_hiding_page, ⟨_, rfl⟩⟩⟩⟩, k_hiding_page⟩
  have kb1_hiding_page := F_hiding_page.kbinds0 (ps := ["boxes", "rounds", "hear"]) 1 ["rounds"] [("hear", V.int 1)] (fun vs mz zs => vs ++ zs ++ mz) (by decide) (fun _ h => h) (fun a b c => (a.append c).append b) fun D doc pm an cdv ct us mv ws h1 h2 h3 => match us, mv, ws, h1, h2, h3 with | [_], [_], [_], _, _, _ => ⟨_, _, _, _, _, _, rfl, rfl, rfl⟩
  obtain ⟨mvP, kb1_hiding_page⟩ := kb1_hiding_page
  have kb2_hiding_page := F_hiding_page.kbinds0 (ps := ["boxes", "rounds", "hear"]) 1 ["rounds", "hear"] [] (fun vs mz zs => vs ++ zs) (by decide) (fun _ h => absurd h (by simp)) (fun a b c => a.append c) fun D doc pm an cdv ct us mv ws h1 h2 h3 => match us, mv, ws, h1, h2, h3 with | [_], [], [_, _], _, _, _ => rfl
  obtain ⟨_, kb2_hiding_page⟩ := kb2_hiding_page
  have F_open := fun_mk (st := s_open) l_open c_open k_open
  have b_open := F_open.binds (ps := ["_law_script"]) fun _ _ _ _ _ _ us hl => match us, hl with | [_], _ => rfl
  have F_draw := fun_mk (st := s_draw) l_draw c_draw k_draw
  have b_draw := F_draw.binds (ps := ["_law_state", "_law_many"]) fun _ _ _ _ _ _ us hl => match us, hl with | [_, _], _ => rfl
  have F_wwhole := fun_mk (st := s_wwhole) l_wwhole c_wwhole k_wwhole
  have b_wwhole := F_wwhole.binds (ps := ["_law_thing"]) fun _ _ _ _ _ _ us hl => match us, hl with | [_], _ => rfl
  have F_number := fun_mk (st := s_number) l_number c_number k_number
  have b_number := F_number.binds (ps := ["_law_state"]) fun _ _ _ _ _ _ us hl => match us, hl with | [_], _ => rfl
  have F_sends := fun_mk (st := s_sends) l_sends c_sends k_sends
  have b_sends := F_sends.binds (ps := ["_law_state"]) fun _ _ _ _ _ _ us hl => match us, hl with | [_], _ => rfl
  have F_wire := fun_mk (st := s_wire) l_wire c_wire k_wire
  have b_wire := F_wire.binds (ps := ["_law_state"]) fun _ _ _ _ _ _ us hl => match us, hl with | [_], _ => rfl
  have F_line := fun_mk (st := s_line) l_line c_line k_line
  have b_line := F_line.binds (ps := ["_law_row"]) fun _ _ _ _ _ _ us hl => match us, hl with | [_], _ => rfl
  have F_row_told := fun_mk (st := s_row_told) l_row_told c_row_told k_row_told
  have b_row_told := F_row_told.binds (ps := ["_law_row", "_law_boxes", "_law_at", "_law_sends_here", "_law_alike"]) fun _ _ _ _ _ _ us hl => match us, hl with | [_, _, _, _, _], _ => rfl
  have F_law := fun_mk (st := s_law) l_law c_law k_law
  have b_law := F_law.binds (ps := ["_law_script"]) fun _ _ _ _ _ _ us hl => match us, hl with | [_], _ => rfl
  have lowX : PySem.LowX.LowTxt K mg eCX eIX :=
    { gC := PySem.W.mg_of X G e_aX, cls := ⟨enmX, eqX, eNX, ebsX, _, esnX, esubX, eabX, ecolX, eddX, em0X, em1X, em2X, em3X, em5X, e_xX, e_bX⟩, sa := e_sX, ga := e_gX, gg := e_hX, noN := e_nX, iC := e_iX, tC := e_tX, kC := e_kX, exC := e_eX, tyC := e_tyX, hdC := e_dX, te := PySem.W.exm_ref e_eX e_dX e_tyX e_scX,
      fn := ⟨_, _, _, _, _, _, _, _, _, _, _, _, _, _, e_lX, e_cX⟩ }
  have T : Σ' T : Txt K mg, T.a_law = fa ∧ T.d_law = PySem.W.fnOf "law" "law" (defArgs s_law) (defBody s_law) (defScope s_law) .none kV_law dc_law pm_law an_law cd_law ct_law :=
    ⟨{ C := xC, gC := PySem.W.mg_of X G axC, clC := ⟨pg, hd, po, sa⟩,
        W := xW, gW := PySem.W.mg_of X G axW, clW := ⟨pgW, hdW, poW, saW⟩,
        HC := xH, gHC := PySem.W.mg_of X G axH, clHC := ⟨pgHC, hdHC, poHC, saHC⟩,
        isiHC := ⟨icaHC, icnHC, ictHC, icmHC⟩, kSHC := kSHC,
        nO := nO, nN := nN, nB := nB, nP := nP,
        CN := _, fN := _, low := lowX,
        mc := .type "type", rd := ⟨rdW, gaW⟩, uP := _, uS := _, vP := ⟨vP, ⟨_, rfl⟩⟩, vS := ⟨vS, ⟨_, rfl⟩⟩,
        aIt := a_iter, iIt := i_iter, aHIt := a_hiter, iHIt := i_hiter, aHLen := a_hlen, iHLen := i_hlen,
        a_is_whole := _, d_is_whole := _, F_is_whole := F_is_whole, b_is_whole := b_is_whole, g_is_whole := PySem.W.mg_of X G a_is_whole,
        a_is_whole_within := _, d_is_whole_within := _, F_is_whole_within := F_is_whole_within, b_is_whole_within := b_is_whole_within, g_is_whole_within := PySem.W.mg_of X G a_is_whole_within,
        a_is_sequence := _, d_is_sequence := _, F_is_sequence := F_is_sequence, b_is_sequence := b_is_sequence, g_is_sequence := PySem.W.mg_of X G a_is_sequence,
        a_is_number := _, d_is_number := _, F_is_number := F_is_number, b_is_number := b_is_number, g_is_number := PySem.W.mg_of X G a_is_number,
        a_check_number := _, d_check_number := _, F_check_number := F_check_number, b_check_number := b_check_number, g_check_number := PySem.W.mg_of X G a_check_number,
        a_blocks := _, d_blocks := _, F_blocks := F_blocks, b_blocks := b_blocks, g_blocks := PySem.W.mg_of X G a_blocks,
        a_row_of := _, d_row_of := _, F_row_of := F_row_of, b_row_of := b_row_of, g_row_of := PySem.W.mg_of X G a_row_of,
        a_length_of := _, d_length_of := _, F_length_of := F_length_of, b_length_of := b_length_of, g_length_of := PySem.W.mg_of X G a_length_of,
        a_is_sort := _, d_is_sort := _, F_is_sort := F_is_sort, b_is_sort := b_is_sort, g_is_sort := PySem.W.mg_of X G a_is_sort,
        a_is_box := _, d_is_box := _, F_is_box := F_is_box, b_is_box := b_is_box, g_is_box := PySem.W.mg_of X G a_is_box,
        a_has_double := _, d_has_double := _, F_has_double := F_has_double, b_has_double := b_has_double, g_has_double := PySem.W.mg_of X G a_has_double,
        a_are_boxes := _, d_are_boxes := _, F_are_boxes := F_are_boxes, b_are_boxes := b_are_boxes, g_are_boxes := PySem.W.mg_of X G a_are_boxes,
        a_check_called := _, d_check_called := _, F_check_called := F_check_called, b_check_called := b_check_called, g_check_called := PySem.W.mg_of X G a_check_called,
        a_check_sort := _, d_check_sort := _, F_check_sort := F_check_sort, b_check_sort := b_check_sort, g_check_sort := PySem.W.mg_of X G a_check_sort,
        a_check_others := _, d_check_others := _, F_check_others := F_check_others, b_check_others := b_check_others, g_check_others := PySem.W.mg_of X G a_check_others,
        a_check_wire := _, d_check_wire := _, F_check_wire := F_check_wire, b_check_wire := b_check_wire, g_check_wire := PySem.W.mg_of X G a_check_wire,
        a_check_rounds := _, d_check_rounds := _, F_check_rounds := F_check_rounds, b_check_rounds := b_check_rounds, g_check_rounds := PySem.W.mg_of X G a_check_rounds,
        a_check_hear := _, d_check_hear := _, F_check_hear := F_check_hear, b_check_hear := b_check_hear, g_check_hear := PySem.W.mg_of X G a_check_hear,
        a_check_offset := _, d_check_offset := _, F_check_offset := F_check_offset, b_check_offset := b_check_offset, g_check_offset := PySem.W.mg_of X G a_check_offset,
        a_init := _, d_init := _, F_init := F_init, b_init := b_init, mk_init := ⟨mk, a_init, i_init, kc⟩, ds0 := [], tE := xE, eT := ⟨_, _, e2_init, rfl, rfl⟩,
        a_iter := _, d_iter := _, F_iter := F_iter, b_iter := b_iter, m_iter := ⟨a_iter, i_iter, k_iter⟩,
        a_strokes_of := _, d_strokes_of := _, F_strokes_of := F_strokes_of, b_strokes_of := b_strokes_of, g_strokes_of := PySem.W.mg_of X G a_strokes_of,
        a_has_stroke := _, d_has_stroke := _, F_has_stroke := F_has_stroke, b_has_stroke := b_has_stroke, g_has_stroke := PySem.W.mg_of X G a_has_stroke,
        a_spoilt_rounds := _, d_spoilt_rounds := _, F_spoilt_rounds := F_spoilt_rounds, b_spoilt_rounds := b_spoilt_rounds, g_spoilt_rounds := PySem.W.mg_of X G a_spoilt_rounds,
        a_given_offsets := _, d_given_offsets := _, F_given_offsets := F_given_offsets, b_given_offsets := b_given_offsets, g_given_offsets := PySem.W.mg_of X G a_given_offsets,
        a_step_offset := _, d_step_offset := _, F_step_offset := F_step_offset, b_step_offset := b_step_offset, g_step_offset := PySem.W.mg_of X G a_step_offset,
        a_greatest_spoil := _, d_greatest_spoil := _, F_greatest_spoil := F_greatest_spoil, b_greatest_spoil := b_greatest_spoil, g_greatest_spoil := PySem.W.mg_of X G a_greatest_spoil,
        a_spoil_table := _, d_spoil_table := _, F_spoil_table := F_spoil_table, g_spoil_table := PySem.W.mg_of X G a_spoil_table, kb_spoil_table := kb_spoil_table,
        a_best_row := _, d_best_row := _, F_best_row := F_best_row, b_best_row := b_best_row, g_best_row := PySem.W.mg_of X G a_best_row,
        a_pulls_alone := _, d_pulls_alone := _, F_pulls_alone := F_pulls_alone, b_pulls_alone := b_pulls_alone, g_pulls_alone := PySem.W.mg_of X G a_pulls_alone,
        a_pulls_behind_shy := _, d_pulls_behind_shy := _, F_pulls_behind_shy := F_pulls_behind_shy, b_pulls_behind_shy := b_pulls_behind_shy, g_pulls_behind_shy := PySem.W.mg_of X G a_pulls_behind_shy,
        a_plain_pulls_needed := _, d_plain_pulls_needed := _, F_plain_pulls_needed := F_plain_pulls_needed, b_plain_pulls_needed := b_plain_pulls_needed, g_plain_pulls_needed := PySem.W.mg_of X G a_plain_pulls_needed,
        a_hinit := _, d_hinit := _, F_hinit := F_hinit, b_hinit := b_hinit, mk_hinit := ⟨mkHC, a_hinit, i_hinit, kcHC⟩,
        a_hiter := _, d_hiter := _, F_hiter := F_hiter, b_hiter := b_hiter, m_hiter := ⟨a_hiter, i_hiter, k_hiter⟩,
        a_hlen := _, d_hlen := _, F_hlen := F_hlen, b_hlen := b_hlen, m_hlen := ⟨a_hlen, i_hlen, k_hlen⟩,
        a_hidden := _, d_hidden := _, F_hidden := F_hidden, g_hidden := PySem.W.mg_of X G a_hidden, kb2_hidden := kb2_hidden,
        a_hiding_of := _, d_hiding_of := _, F_hiding_of := F_hiding_of, b_hiding_of := b_hiding_of, g_hiding_of := PySem.W.mg_of X G a_hiding_of,
        a_pulls_on_plain := _, d_pulls_on_plain := _, F_pulls_on_plain := F_pulls_on_plain, b_pulls_on_plain := b_pulls_on_plain, g_pulls_on_plain := PySem.W.mg_of X G a_pulls_on_plain,
        a_plain_pulls := _, d_plain_pulls := _, F_plain_pulls := F_plain_pulls, b_plain_pulls := b_plain_pulls, g_plain_pulls := PySem.W.mg_of X G a_plain_pulls,
        a_pulls_on_shy := _, d_pulls_on_shy := _, F_pulls_on_shy := F_pulls_on_shy, b_pulls_on_shy := b_pulls_on_shy, g_pulls_on_shy := PySem.W.mg_of X G a_pulls_on_shy,
        a_check_page := _, d_check_page := _, F_check_page := F_check_page, b_check_page := b_check_page, g_check_page := PySem.W.mg_of X G a_check_page,
        a_others_of := _, d_others_of := _, F_others_of := F_others_of, b_others_of := b_others_of, g_others_of := PySem.W.mg_of X G a_others_of,
        a_who_hides := _, d_who_hides := _, F_who_hides := F_who_hides, g_who_hides := PySem.W.mg_of X G a_who_hides, mvW := mvW, kb1_who_hides := kb1_who_hides, kb2_who_hides := kb2_who_hides,
        a_is_hidden_by := _, d_is_hidden_by := _, F_is_hidden_by := F_is_hidden_by, b_is_hidden_by := b_is_hidden_by, g_is_hidden_by := PySem.W.mg_of X G a_is_hidden_by,
        a_first_hidden := _, d_first_hidden := _, F_first_hidden := F_first_hidden, g_first_hidden := PySem.W.mg_of X G a_first_hidden, mvF := mvF, kb2_first_hidden := kb2_first_hidden, kb3_first_hidden := kb3_first_hidden,
        a_hiding_page := _, d_hiding_page := _, F_hiding_page := F_hiding_page, g_hiding_page := PySem.W.mg_of X G a_hiding_page, mvP := mvP, kb1_hiding_page := kb1_hiding_page, kb2_hiding_page := kb2_hiding_page,
        a_open := _, d_open := _, F_open := F_open, b_open := b_open, g_open := PySem.W.mg_of X G a_open,
        a_draw := _, d_draw := _, F_draw := F_draw, b_draw := b_draw, g_draw := PySem.W.mg_of X G a_draw,
        a_wwhole := _, d_wwhole := _, F_wwhole := F_wwhole, b_wwhole := b_wwhole, g_wwhole := PySem.W.mg_of X G a_wwhole,
        a_number := _, d_number := _, F_number := F_number, b_number := b_number, g_number := PySem.W.mg_of X G a_number,
        a_sends := _, d_sends := _, F_sends := F_sends, b_sends := b_sends, g_sends := PySem.W.mg_of X G a_sends,
        a_wire := _, d_wire := _, F_wire := F_wire, b_wire := b_wire, g_wire := PySem.W.mg_of X G a_wire,
        a_line := _, d_line := _, F_line := F_line, b_line := b_line, g_line := PySem.W.mg_of X G a_line,
        a_row_told := _, d_row_told := _, F_row_told := F_row_told, b_row_told := b_row_told, g_row_told := PySem.W.mg_of X G a_row_told,
        a_law := _, d_law := _, F_law := F_law, b_law := b_law, g_law := PySem.W.mg_of X G a_law,
        t_DIGITS := _, c_DIGITS := PySem.W.mg_of X G n_DIGITS,
        t_MOST_DIGITS := _, c_MOST_DIGITS := PySem.W.mg_of X G n_MOST_DIGITS,
        t_GREATEST_SUM := _, c_GREATEST_SUM := PySem.W.mg_of X G n_GREATEST_SUM,
        t_CLOSED_END := _, c_CLOSED_END := PySem.W.mg_of X G n_CLOSED_END,
        t_MOST_ROUNDS := _, c_MOST_ROUNDS := PySem.W.mg_of X G n_MOST_ROUNDS,
        t_MOST_ON_WIRE := _, c_MOST_ON_WIRE := PySem.W.mg_of X G n_MOST_ON_WIRE,
        t_WAIT := _, c_WAIT := PySem.W.mg_of X G n_WAIT,
        z_abs := PySem.W.mg_none_of X G z_abs,
        z_all := PySem.W.mg_none_of X G z_all,
        z_bool := PySem.W.mg_none_of X G z_bool,
        z_enumerate := PySem.W.mg_none_of X G z_enumerate,
        z_int := PySem.W.mg_none_of X G z_int,
        z_isinstance := PySem.W.mg_none_of X G z_isinstance,
        z_iter := PySem.W.mg_none_of X G z_iter,
        z_len := PySem.W.mg_none_of X G z_len,
        z_list := PySem.W.mg_none_of X G z_list,
        z_max := PySem.W.mg_none_of X G z_max,
        z_min := PySem.W.mg_none_of X G z_min,
        z_range := PySem.W.mg_none_of X G z_range,
        z_set := PySem.W.mg_none_of X G z_set,
        z_sorted := PySem.W.mg_none_of X G z_sorted,
        z_str := PySem.W.mg_none_of X G z_str,
        z_sum := PySem.W.mg_none_of X G z_sum,
        z_tuple := PySem.W.mg_none_of X G z_tuple }, rfl, rfl⟩
  obtain ⟨T, e1, e2⟩ := T
  subst e1
  refine ⟨T.d_law, fun s v => by rw [e2]; exact .of_eq rfl, fun base _ _ => ok_law T⟩
theorem walk {l : PySem.W.OpenLaw} {q : Program} {loose : List Str} {XP : (Str → Option Value) → Heap → Prop} {YP : World → Heap → Prop} {d : DefRec} {K : Params → PySem.W.Frag} (hn : l.most = some 63) (hdf : d.params.defaults = [])
    (hY : ∀ (w : World) (h : Heap), YP w h → (K w.params).In h)
    (F : ∀ (w : World) (mg : Str → Option Value) (fa : Addr) (h : Heap), (K w.params).In h → h.Ns mainGlobals mg → mg d.name = some (.ref fa) →
      ∃ fd : FuncData, (∀ (s : Shared) (u : Value), BindsTo s fd ⟨[u], []⟩ [("_law_script", u)]) ∧ ∀ base : Heap, (K w.params).In base → base.Ns mainGlobals mg → FnOk l.prog w (K w.params) mg base CX0 15 fa fd ["_law_script"] (sp_law (K w.params))) :
    PySem.W.WalkO q loose XP YP l.row.toRowW d [] (fun f vs => PySem.call f vs) :=
  L2.walk_of (n := 63) (k := 15) (x := "_law_script") (CX := fun _ => CX0) (sp := fun w => sp_law (K w.params)) hn (by decide) hdf ⟨rfl, by decide, by decide⟩ hY F (fun _ _ a ns hl _ hS => ⟨a, ns, rfl, hS, hl, fun _ => rfl⟩) fun _ _ _ _ _ z => z
end K47

open PySem PySem.W PyProof.Rows in
set_option maxRecDepth 100000 in
set_option maxHeartbeats 0 in
theorem PySem.Challenge.cw_wheelchorus_k47_whole_pages_of_who_hides_holds : PySem.Challenge.rw_wheelchorus_k47_whole_pages_of_who_hides.Holds := by
  w_on; o_law; k_head; (case hw => w_witness2)
  k_fill
  refine K47.walk (l := PySem.Challenge.rw_wheelchorus_k47_whole_pages_of_who_hides) rfl rfl (fun w h Y => PySem.W.kIn_of Y) ?F
  case F =>
    intro w mg fa h KX G hmg
    refine' K47.all_mk KX G hmg ?axC ?axW ?axH ?a_is_whole ?l_is_whole ?c_is_whole ?k_is_whole ?a_is_whole_within ?l_is_whole_within ?c_is_whole_within ?k_is_whole_within ?a_is_sequence ?l_is_sequence ?c_is_sequence ?k_is_sequence ?a_is_number ?l_is_number ?c_is_number ?k_is_number ?a_check_number ?l_check_number ?c_check_number ?k_check_number ?a_blocks ?l_blocks ?c_blocks ?k_blocks ?a_row_of ?l_row_of ?c_row_of ?k_row_of ?a_length_of ?l_length_of ?c_length_of ?k_length_of ?a_is_sort ?l_is_sort ?c_is_sort ?k_is_sort ?a_is_box ?l_is_box ?c_is_box ?k_is_box ?a_has_double ?l_has_double ?c_has_double ?k_has_double ?a_are_boxes ?l_are_boxes ?c_are_boxes ?k_are_boxes ?a_check_called ?l_check_called ?c_check_called ?k_check_called ?a_check_sort ?l_check_sort ?c_check_sort ?k_check_sort ?a_check_others ?l_check_others ?c_check_others ?k_check_others ?a_check_wire ?l_check_wire ?c_check_wire ?k_check_wire ?a_check_rounds ?l_check_rounds ?c_check_rounds ?k_check_rounds ?a_check_hear ?l_check_hear ?c_check_hear ?k_check_hear ?a_check_offset ?l_check_offset ?c_check_offset ?k_check_offset ?a_init ?i_init ?l_init ?c_init ?k_init ?e_init ?e2_init ?a_iter ?i_iter ?l_iter ?c_iter ?k_iter ?a_strokes_of ?l_strokes_of ?c_strokes_of ?k_strokes_of ?a_has_stroke ?l_has_stroke ?c_has_stroke ?k_has_stroke ?a_spoilt_rounds ?l_spoilt_rounds ?c_spoilt_rounds ?k_spoilt_rounds ?a_given_offsets ?l_given_offsets ?c_given_offsets ?k_given_offsets ?a_step_offset ?l_step_offset ?c_step_offset ?k_step_offset ?a_greatest_spoil ?l_greatest_spoil ?c_greatest_spoil ?k_greatest_spoil ?a_spoil_table ?l_spoil_table ?c_spoil_table ?k_spoil_table ?a_best_row ?l_best_row ?c_best_row ?k_best_row ?a_pulls_alone ?l_pulls_alone ?c_pulls_alone ?k_pulls_alone ?a_pulls_behind_shy ?l_pulls_behind_shy ?c_pulls_behind_shy ?k_pulls_behind_shy ?a_plain_pulls_needed ?l_plain_pulls_needed ?c_plain_pulls_needed ?k_plain_pulls_needed ?a_hinit ?i_hinit ?l_hinit ?c_hinit ?k_hinit ?a_hiter ?i_hiter ?l_hiter ?c_hiter ?k_hiter ?a_hlen ?i_hlen ?l_hlen ?c_hlen ?k_hlen ?a_hidden ?l_hidden ?c_hidden ?k_hidden ?e_hidden ?a_hiding_of ?l_hiding_of ?c_hiding_of ?k_hiding_of ?a_pulls_on_plain ?l_pulls_on_plain ?c_pulls_on_plain ?k_pulls_on_plain ?a_plain_pulls ?l_plain_pulls ?c_plain_pulls ?k_plain_pulls ?a_pulls_on_shy ?l_pulls_on_shy ?c_pulls_on_shy ?k_pulls_on_shy ?a_check_page ?l_check_page ?c_check_page ?k_check_page ?a_others_of ?l_others_of ?c_others_of ?k_others_of ?a_who_hides ?l_who_hides ?c_who_hides ?k_who_hides ?e_who_hides ?a_is_hidden_by ?l_is_hidden_by ?c_is_hidden_by ?k_is_hidden_by ?a_first_hidden ?l_first_hidden ?c_first_hidden ?k_first_hidden ?e_first_hidden ?a_hiding_page ?l_hiding_page ?c_hiding_page ?k_hiding_page ?e_hiding_page ?a_open ?l_open ?c_open ?k_open ?a_draw ?l_draw ?c_draw ?k_draw ?a_wwhole ?l_wwhole ?c_wwhole ?k_wwhole ?a_number ?l_number ?c_number ?k_number ?a_sends ?l_sends ?c_sends ?k_sends ?a_wire ?l_wire ?c_wire ?k_wire ?a_line ?l_line ?c_line ?k_line ?a_row_told ?l_row_told ?c_row_told ?k_row_told ?a_law ?l_law ?c_law ?k_law ?pg ?hd ?po ?sa ?mk ?kc ?nO ?pgW ?hdW ?poW ?saW ?mkW ?kcW ?rdW ?gaW ?pgHC ?hdHC ?poHC ?saHC ?mkHC ?kcHC ?nN ?nB ?nP ?icaHC ?icnHC ?ictHC ?icmHC ?kSHC ?vP ?vS ?e_aX ?e_xX ?e_bX ?e_sX ?e_gX ?e_hX ?e_nX ?e_iX ?e_tX ?e_lX ?e_cX ?e_kX ?e_eX ?e_tyX ?e_dX ?e_scX ?n_DIGITS ?n_MOST_DIGITS ?n_GREATEST_SUM ?n_CLOSED_END ?n_MOST_ROUNDS ?n_MOST_ON_WIRE ?n_WAIT ?z_abs ?z_all ?z_bool ?z_enumerate ?z_int ?z_isinstance ?z_iter ?z_len ?z_list ?z_max ?z_min ?z_range ?z_set ?z_sorted ?z_str ?z_sum ?z_tuple
    (case axC => k_is)
    (case axW => k_is)
    (case axH => k_is)
    (case a_is_whole => k_is)
    (case l_is_whole => k_is)
    (case c_is_whole => k_is)
    (case k_is_whole => k_is)
    (case a_is_whole_within => k_is)
    (case l_is_whole_within => k_is)
    (case c_is_whole_within => k_is)
    (case k_is_whole_within => k_is)
    (case a_is_sequence => k_is)
    (case l_is_sequence => k_is)
    (case c_is_sequence => k_is)
    (case k_is_sequence => k_is)
    (case a_is_number => k_is)
    (case l_is_number => k_is)
    (case c_is_number => k_is)
    (case k_is_number => k_is)
    (case a_check_number => k_is)
    (case l_check_number => k_is)
    (case c_check_number => k_is)
    (case k_check_number => k_is)
    (case a_blocks => k_is)
    (case l_blocks => k_is)
    (case c_blocks => k_is)
    (case k_blocks => k_is)
    (case a_row_of => k_is)
    (case l_row_of => k_is)
    (case c_row_of => k_is)
    (case k_row_of => k_is)
    (case a_length_of => k_is)
    (case l_length_of => k_is)
    (case c_length_of => k_is)
    (case k_length_of => k_is)
    (case a_is_sort => k_is)
    (case l_is_sort => k_is)
    (case c_is_sort => k_is)
    (case k_is_sort => k_is)
    (case a_is_box => k_is)
    (case l_is_box => k_is)
    (case c_is_box => k_is)
    (case k_is_box => k_is)
    (case a_has_double => k_is)
    (case l_has_double => k_is)
    (case c_has_double => k_is)
    (case k_has_double => k_is)
    (case a_are_boxes => k_is)
    (case l_are_boxes => k_is)
    (case c_are_boxes => k_is)
    (case k_are_boxes => k_is)
    (case a_check_called => k_is)
    (case l_check_called => k_is)
    (case c_check_called => k_is)
    (case k_check_called => k_is)
    (case a_check_sort => k_is)
    (case l_check_sort => k_is)
    (case c_check_sort => k_is)
    (case k_check_sort => k_is)
    (case a_check_others => k_is)
    (case l_check_others => k_is)
    (case c_check_others => k_is)
    (case k_check_others => k_is)
    (case a_check_wire => k_is)
    (case l_check_wire => k_is)
    (case c_check_wire => k_is)
    (case k_check_wire => k_is)
    (case a_check_rounds => k_is)
    (case l_check_rounds => k_is)
    (case c_check_rounds => k_is)
    (case k_check_rounds => k_is)
    (case a_check_hear => k_is)
    (case l_check_hear => k_is)
    (case c_check_hear => k_is)
    (case k_check_hear => k_is)
    (case a_check_offset => k_is)
    (case l_check_offset => k_is)
    (case c_check_offset => k_is)
    (case k_check_offset => k_is)
    (case a_init => k_is)
    (case i_init => k_is)
    (case l_init => k_is)
    (case c_init => k_is)
    (case k_init => k_is)
    (case e_init => k_is)
    (case e2_init => k_is)
    (case a_iter => k_is)
    (case i_iter => k_is)
    (case l_iter => k_is)
    (case c_iter => k_is)
    (case k_iter => k_is)
    (case a_strokes_of => k_is)
    (case l_strokes_of => k_is)
    (case c_strokes_of => k_is)
    (case k_strokes_of => k_is)
    (case a_has_stroke => k_is)
    (case l_has_stroke => k_is)
    (case c_has_stroke => k_is)
    (case k_has_stroke => k_is)
    (case a_spoilt_rounds => k_is)
    (case l_spoilt_rounds => k_is)
    (case c_spoilt_rounds => k_is)
    (case k_spoilt_rounds => k_is)
    (case a_given_offsets => k_is)
    (case l_given_offsets => k_is)
    (case c_given_offsets => k_is)
    (case k_given_offsets => k_is)
    (case a_step_offset => k_is)
    (case l_step_offset => k_is)
    (case c_step_offset => k_is)
    (case k_step_offset => k_is)
    (case a_greatest_spoil => k_is)
    (case l_greatest_spoil => k_is)
    (case c_greatest_spoil => k_is)
    (case k_greatest_spoil => k_is)
    (case a_spoil_table => k_is)
    (case l_spoil_table => k_is)
    (case c_spoil_table => k_is)
    (case k_spoil_table => k_is)
    (case a_best_row => k_is)
    (case l_best_row => k_is)
    (case c_best_row => k_is)
    (case k_best_row => k_is)
    (case a_pulls_alone => k_is)
    (case l_pulls_alone => k_is)
    (case c_pulls_alone => k_is)
    (case k_pulls_alone => k_is)
    (case a_pulls_behind_shy => k_is)
    (case l_pulls_behind_shy => k_is)
    (case c_pulls_behind_shy => k_is)
    (case k_pulls_behind_shy => k_is)
    (case a_plain_pulls_needed => k_is)
    (case l_plain_pulls_needed => k_is)
    (case c_plain_pulls_needed => k_is)
    (case k_plain_pulls_needed => k_is)
    (case a_hinit => k_is)
    (case i_hinit => k_is)
    (case l_hinit => k_is)
    (case c_hinit => k_is)
    (case k_hinit => k_is)
    (case a_hiter => k_is)
    (case i_hiter => k_is)
    (case l_hiter => k_is)
    (case c_hiter => k_is)
    (case k_hiter => k_is)
    (case a_hlen => k_is)
    (case i_hlen => k_is)
    (case l_hlen => k_is)
    (case c_hlen => k_is)
    (case k_hlen => k_is)
    (case a_hidden => k_is)
    (case l_hidden => k_is)
    (case c_hidden => k_is)
    (case k_hidden => k_is)
    (case e_hidden => k_is)
    (case a_hiding_of => k_is)
    (case l_hiding_of => k_is)
    (case c_hiding_of => k_is)
    (case k_hiding_of => k_is)
    (case a_pulls_on_plain => k_is)
    (case l_pulls_on_plain => k_is)
    (case c_pulls_on_plain => k_is)
    (case k_pulls_on_plain => k_is)
    (case a_plain_pulls => k_is)
    (case l_plain_pulls => k_is)
    (case c_plain_pulls => k_is)
    (case k_plain_pulls => k_is)
    (case a_pulls_on_shy => k_is)
    (case l_pulls_on_shy => k_is)
    (case c_pulls_on_shy => k_is)
    (case k_pulls_on_shy => k_is)
    (case a_check_page => k_is)
    (case l_check_page => k_is)
    (case c_check_page => k_is)
    (case k_check_page => k_is)
    (case a_others_of => k_is)
    (case l_others_of => k_is)
    (case c_others_of => k_is)
    (case k_others_of => k_is)
    (case a_who_hides => k_is)
    (case l_who_hides => k_is)
    (case c_who_hides => k_is)
    (case k_who_hides => k_is)
    (case e_who_hides => k_is)
    (case a_is_hidden_by => k_is)
    (case l_is_hidden_by => k_is)
    (case c_is_hidden_by => k_is)
    (case k_is_hidden_by => k_is)
    (case a_first_hidden => k_is)
    (case l_first_hidden => k_is)
    (case c_first_hidden => k_is)
    (case k_first_hidden => k_is)
    (case e_first_hidden => k_is)
    (case a_hiding_page => k_is)
    (case l_hiding_page => k_is)
    (case c_hiding_page => k_is)
    (case k_hiding_page => k_is)
    (case e_hiding_page => k_is)
    (case a_open => k_is)
    (case l_open => k_is)
    (case c_open => k_is)
    (case k_open => k_is)
    (case a_draw => k_is)
    (case l_draw => k_is)
    (case c_draw => k_is)
    (case k_draw => k_is)
    (case a_wwhole => k_is)
    (case l_wwhole => k_is)
    (case c_wwhole => k_is)
    (case k_wwhole => k_is)
    (case a_number => k_is)
    (case l_number => k_is)
    (case c_number => k_is)
    (case k_number => k_is)
    (case a_sends => k_is)
    (case l_sends => k_is)
    (case c_sends => k_is)
    (case k_sends => k_is)
    (case a_wire => k_is)
    (case l_wire => k_is)
    (case c_wire => k_is)
    (case k_wire => k_is)
    (case a_line => k_is)
    (case l_line => k_is)
    (case c_line => k_is)
    (case k_line => k_is)
    (case a_row_told => k_is)
    (case l_row_told => k_is)
    (case c_row_told => k_is)
    (case k_row_told => k_is)
    (case a_law => k_is)
    (case l_law => k_is)
    (case c_law => k_is)
    (case k_law => k_is)
    (case pg => k_is)
    (case hd => k_is)
    (case po => k_is)
    (case sa => k_is)
    (case mk => k_is)
    (case kc => k_is)
    (case nO => k_is)
    (case pgW => k_is)
    (case hdW => k_is)
    (case poW => k_is)
    (case saW => k_is)
    (case mkW => k_is)
    (case kcW => k_is)
    (case rdW => k_is)
    (case gaW => k_is)
    (case pgHC => k_is)
    (case hdHC => k_is)
    (case poHC => k_is)
    (case saHC => k_is)
    (case mkHC => k_is)
    (case kcHC => k_is)
    (case nN => k_is)
    (case nB => k_is)
    (case nP => k_is)
    (case icaHC => k_is)
    (case icnHC => k_is)
    (case ictHC => k_is)
    (case icmHC => k_is)
    (case kSHC => first | k_is | kit_is | (decide +kernel))
    (case vP => k_is)
    (case vS => k_is)
    (case e_aX => k_is)
    (case e_xX => k_is)
    (case e_bX => decide +kernel)
    (case e_sX => k_is)
    (case e_gX => k_is)
    (case e_hX => k_is)
    (case e_nX => k_is)
    (case e_iX => k_is)
    (case e_tX => k_is)
    (case e_lX => k_is)
    (case e_cX => k_is)
    (case e_kX => k_is)
    (case e_eX => k_is)
    (case e_tyX => k_is)
    (case e_dX => k_is)
    (case e_scX => first | rfl | k_is)
    (case n_DIGITS => k_is)
    (case n_MOST_DIGITS => k_is)
    (case n_GREATEST_SUM => k_is)
    (case n_CLOSED_END => k_is)
    (case n_MOST_ROUNDS => k_is)
    (case n_MOST_ON_WIRE => k_is)
    (case n_WAIT => k_is)
    (case z_abs => k_is)
    (case z_all => k_is)
    (case z_bool => k_is)
    (case z_enumerate => k_is)
    (case z_int => k_is)
    (case z_isinstance => k_is)
    (case z_iter => k_is)
    (case z_len => k_is)
    (case z_list => k_is)
    (case z_max => k_is)
    (case z_min => k_is)
    (case z_range => k_is)
    (case z_set => k_is)
    (case z_sorted => k_is)
    (case z_str => k_is)
    (case z_sum => k_is)
    (case z_tuple => k_is)
